"""text: the rules' text, to the byte."""

import random
import unittest

from asking import FACTS, NAME, TEXT, TURNS, ask, back, cells, codes, listed, make, plain_text, random_text, rules, \
    text_of, told_rows

BY_HAND = ("tafl Ab7 5 6\nground\nX....\n.....\n..S..\n...#.\n.....\n....X\n"
           "start\n..h..\n.....\nhmK..\n.....\n..m..\n.....\n"
           "first king\nking steps bare four\nseat passed men\nexits hunters\ngoal exits\nthrice king\nlimit 7\n")
FAULTY = ["", BY_HAND[:-1], BY_HAND + " ", BY_HAND.replace("S", "."), BY_HAND.replace("K", "."),
          BY_HAND.replace("X", "."), BY_HAND.replace(".m.", "KmS"), BY_HAND.replace("#", "S")]


class Text(unittest.TestCase):
    def test_by_hand(self):
        told = ask(rules(BY_HAND), TEXT)
        self.assertEqual(told[0], [0])
        self.assertEqual(told[1][:8], [0, len(BY_HAND), 116, 97, 102, 108, 32, 65])
        self.assertEqual(told[1], listed(list(BY_HAND.encode("ascii"))))

    def test_every_size(self):
        source = random.Random(11)
        for wide in range(5, 14):
            for high in range(5, 14):
                for text in (plain_text(wide, high), random_text(source, wide, high)):
                    self.assertEqual(ask(rules(text), TEXT), [[0], listed(codes(text))], text)

    def test_each_word_and_bounds_of_name_and_limit(self):
        for parts in ({"first": "king"}, {"king": "steps bare four"}, {"king": "slides bare two"},
                      {"seat": "passed quiet"}, {"seat": "barred men"}, {"exits": "all"}, {"goal": "edge"},
                      {"thrice": "hunters"}, {"thrice": "king"}, {"limit": 1}, {"limit": 60000}, {"name": "q"},
                      {"name": "Z234567890123456"}):
            text = text_of(**parts)
            self.assertEqual(ask(rules(text), TEXT), [[0], listed(codes(text))], parts)


class Kept(unittest.TestCase):
    def test_behind_a_refused_text(self):
        for faulty in FAULTY:
            told = ask(rules(BY_HAND), rules(faulty), TEXT)
            self.assertEqual(told[1][0], -6, faulty)
            self.assertEqual(told[2], listed(codes(BY_HAND)), faulty)

    def test_behind_a_second_right_text(self):
        other = text_of()
        self.assertEqual(ask(rules(BY_HAND), TEXT, rules(other), TEXT, rules(""), TEXT, rules(BY_HAND), TEXT),
                         [[0], listed(codes(BY_HAND)), [0], listed(codes(other)), [-6, 1, 0], listed(codes(other)),
                          [0], listed(codes(BY_HAND))])

    def test_behind_other_calls(self):
        rows = told_rows(text_of())
        for call in (NAME, FACTS, TURNS, TEXT, cells(0), cells(5), make(*rows), make([], *rows[1:]), back(1), back(8)):
            self.assertEqual(ask(rules(BY_HAND), call, TEXT)[2], listed(codes(BY_HAND)), call)

    def test_without_rules(self):
        self.assertEqual(ask(TEXT), [[-3]])
        self.assertEqual(ask(TEXT, TEXT, rules(BY_HAND), TEXT), [[-3], [-3], [0], listed(codes(BY_HAND))])
        self.assertEqual(ask(make(*told_rows(BY_HAND)), TEXT)[1], [-3])
        for faulty in FAULTY:
            self.assertEqual(ask(rules(faulty), TEXT)[1], [-3], faulty)


if __name__ == "__main__":
    unittest.main()
