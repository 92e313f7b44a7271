"""rules: the grammar, faults of kind 1 (A1)."""

import random
import unittest

import asking
from asking import ask, judge, judge_all, plain_text, rules, text_of

# Written out by hand, so that the tests' own helper is held to the document too.
BY_HAND = """tafl A 5 5
ground
.....
.....
..S..
.....
.....
start
..h..
.....
..K..
.....
.....
first king
king steps bare four
seat barred quiet
exits quiet
goal edge
thrice king
limit 1
"""


class RightTexts(unittest.TestCase):
    def test_by_hand(self):
        self.assertEqual(judge(BY_HAND), [0])

    def test_sizes(self):
        for wide in range(5, 14):
            for high in range(5, 14):
                self.assertEqual(judge(plain_text(wide, high)), [0], (wide, high))

    def test_every_word(self):
        words = {
            "first": ["hunters", "king"],
            "king": [f"{a} {b} {c}" for a in ("slides", "steps") for b in ("armed", "bare") for c in ("two", "four")],
            "seat": [f"{a} {b}" for a in ("passed", "barred") for b in ("quiet", "hunters", "men", "all")],
            "exits": ["quiet", "hunters", "men", "all"],
            "goal": ["edge", "exits"],
            "thrice": ["drawn", "hunters", "king"],
        }
        for line, choices in words.items():
            for words_of_line in choices:
                self.assertEqual(judge(text_of(**{line: words_of_line})), [0], (line, words_of_line))

    def test_names(self):
        for name in ("A", "z", "a1", "Z9", "Q" * 16, "b123456789012345", "KKSSKS", "K", "tafl", "AZaz09"):
            self.assertEqual(judge(text_of(name=name)), [0], name)

    def test_limits(self):
        for limit in (1, 9, 10, 99, 100, 5999, 6000, 6001, 9999, 10000, 59999, 60000):
            self.assertEqual(judge(text_of(limit=limit)), [0], limit)


class Cut(unittest.TestCase):
    def test_at_each_byte(self):
        for text in (BY_HAND, text_of(), plain_text(13, 5), plain_text(5, 13, name="Q" * 16, limit=60000)):
            told = judge_all([text[:length] for length in range(len(text))])
            self.assertEqual(told, [[-6, 1, length] for length in range(len(text))])

    def test_empty(self):
        self.assertEqual(judge(""), [-6, 1, 0])

    def test_bytes_behind_the_end(self):
        for behind in ("\n", " ", "t", "\x00", "\xff", "0", BY_HAND, "x" * 1000):
            self.assertEqual(judge(BY_HAND + behind), [-6, 1, len(BY_HAND)], repr(behind[:9]))

    def test_bytes_before_the_beginning(self):
        self.assertEqual(judge("\n" + BY_HAND), [-6, 1, 0])
        self.assertEqual(judge(" " + BY_HAND), [-6, 1, 0])


class Changed(unittest.TestCase):
    def check(self, texts):
        for text, told in zip(texts, judge_all(texts), strict=True):
            self.assertEqual(told, asking.expected(text), text)

    def test_to_a_byte_of_no_grammar(self):
        for byte in "\x00\x7f\xff\r\t*":
            texts = [BY_HAND[:place] + byte + BY_HAND[place + 1:] for place in range(len(BY_HAND))]
            self.assertEqual(judge_all(texts), [[-6, 1, place] for place in range(len(BY_HAND))])

    def test_each_byte_to_each_sign(self):
        for text in (BY_HAND, text_of()):
            self.check([text[:place] + sign + text[place + 1:]
                        for place in range(len(text)) for sign in asking.ALL_SIGNS])

    def test_each_byte_left_out(self):
        for text in (BY_HAND, text_of(limit=60000), plain_text(13, 10, name="Q" * 16)):
            self.check([text[:place] + text[place + 1:] for place in range(len(text))])

    def test_each_byte_twice(self):
        for text in (BY_HAND, text_of(limit=60000), plain_text(10, 13, name="Q" * 16)):
            self.check([text[:place] + text[place] + text[place:] for place in range(len(text))])

    def test_signs_put_in(self):
        for sign in "0159 aK.S\n":
            self.check([BY_HAND[:place] + sign + BY_HAND[place:] for place in range(len(BY_HAND) + 1)])

    def test_parts_exchanged(self):
        source = random.Random(1)
        texts = []
        for _ in range(1500):
            one, other = text_of(), BY_HAND
            middle = source.randrange(len(one))
            texts.append(one[:middle] + other[source.randrange(len(other)):])
        self.check(texts)

    def test_lines_exchanged(self):
        lines = BY_HAND.splitlines(keepends=True)
        self.check(["".join([*lines[:a], lines[b], *lines[a + 1:]])
                    for a in range(len(lines)) for b in range(len(lines))])


class Names(unittest.TestCase):
    def test_too_long(self):
        for name in ("Q" * 17, "b1234567890123456", "Q" * 1000):
            self.assertEqual(judge(text_of(name=name)), [-6, 1, 5 + 16])

    def test_none(self):
        self.assertEqual(judge(text_of(name="")), [-6, 1, 5])

    def test_digit_in_front(self):
        self.assertEqual(judge(text_of(name="1a")), [-6, 1, 5])

    def test_other_signs(self):
        # The neighbours of the letters and digits in ASCII, and letters beyond it.
        for sign in "@[`{/:_-\xc6\xe9\n\x00":
            self.assertEqual(judge(text_of(name=sign + "a")), [-6, 1, 5], repr(sign))
            self.assertEqual(judge(text_of(name="a" + sign)), [-6, 1, 6], repr(sign))


class Sizes(unittest.TestCase):
    # Of "tafl Brandub W H" the wide size stands at 13, the high one at 15 if W is one sign.
    def test_wrong_sizes(self):
        for size, behind in (("4", 0), ("14", 1), ("05", 0), ("013", 0), ("0", 0), ("", 0), ("2", 0), ("1", 1),
                             ("20", 0), ("50", 1), ("99", 1), ("130", 2), ("100", 2), ("-5", 0), ("+5", 0),
                             (" 5", 0), ("19", 1), ("5.", 1), ("1a", 1)):
            self.assertEqual(judge(text_of(wide=size)), [-6, 1, 13 + behind], size)
            self.assertEqual(judge(text_of(high=size)), [-6, 1, 15 + behind], size)

    def test_rows_too_long_or_short(self):
        text = text_of(wide=6)
        self.assertEqual(judge(text), [-6, 1, text.index("ground\n") + 7 + 5])
        text = plain_text(6, 5, wide=5)
        self.assertEqual(judge(text), [-6, 1, text.index("ground\n") + 7 + 5])

    def test_rows_too_many_or_few(self):
        text = text_of(high=6)
        self.assertEqual(judge(text), [-6, 1, text.index("start\n")])
        text = plain_text(5, 6, high=5)
        self.assertEqual(judge(text), [-6, 1, text.index("ground\n") + 7 + 5 * 6])
        text = text_of(start=asking.START_5 + ["....."])
        self.assertEqual(judge(text), [-6, 1, text.index("first ") - 6])
        text = text_of(start=asking.START_5[:4])
        self.assertEqual(judge(text), [-6, 1, text.index("first ")])


class Limits(unittest.TestCase):
    def test_wrong_limits(self):
        place = text_of().index("limit ") + 6
        for limit, behind in (("0", 0), ("60001", 4), ("01", 0), ("060000", 0), ("", 0), ("60010", 4), ("60100", 4),
                              ("61000", 4), ("70000", 4), ("99999", 4), ("100000", 5), ("600000", 5), ("-1", 0),
                              ("1.", 1), ("200 ", 3), (" 200", 0), ("6000a", 4), ("1" * 500, 5), ("00", 0)):
            self.assertEqual(judge(text_of(limit=limit)), [-6, 1, place + behind], limit)


class Words(unittest.TestCase):
    def test_first_place_that_no_word_has(self):
        for line, words, behind in (
                ("first", "huntersking", 7), ("first", "kings", 4), ("first", "hunter", 6), ("first", "men", 0),
                ("king", "stides armed two", 2), ("king", "slteps armed two", 2), ("king", "slides  armed two", 7),
                ("king", "slides armed", 12), ("king", "armed slides two", 0), ("king", "steps bare fwo", 12),
                ("seat", "passed", 6), ("seat", "quiet", 0), ("seat", "passed drawn", 7), ("seat", "barred hall", 8),
                ("exits", "none", 0), ("exits", "al", 2), ("exits", "quiets", 5), ("exits", "mall", 1),
                ("goal", "exge", 2), ("goal", "edits", 2), ("goal", "e", 1), ("goal", "Edge", 0),
                ("thrice", "draw", 4), ("thrice", "men", 0), ("thrice", "", 0), ("thrice", "king ", 4)):
            text = text_of(**{line: words})
            place = text.index(f"\n{line} ") + len(line) + 2 + behind
            self.assertEqual(judge(text), [-6, 1, place], (line, words))

    def test_signs_of_the_other_board(self):
        for sign in "KhmsxkHM":
            text = plain_text(5, 7, ground=[(2, 4, sign)])
            self.assertEqual(judge(text), [-6, 1, asking.ground_place(text, 2, 4)], sign)
        for sign in "SX#skHM":
            text = plain_text(7, 5, start=[(1, 1, "K"), (3, 3, "h"), (5, 2, sign)])
            self.assertEqual(judge(text), [-6, 1, asking.start_place(text, 5, 2)], sign)


class GrammarFirst(unittest.TestCase):
    def test_kind_1_is_ahead_of_the_others_wherever_it_stands(self):
        wrong = text_of(ground=["SS..."] + asking.GROUND_5[1:], start=["KK.h."] * 5, goal="edge")
        self.assertEqual(judge(wrong)[:2], [-6, 2])
        self.assertEqual(judge(wrong[:-1]), [-6, 1, len(wrong) - 1])
        self.assertEqual(judge(wrong + "\n"), [-6, 1, len(wrong)])

    def test_the_first_of_two(self):
        text = text_of(first="nobody", limit="0")
        self.assertEqual(judge(text), [-6, 1, text.index("nobody")])

    def test_long_texts(self):
        for text, place in (("a" * 29998, 0), ("tafl " + "a" * 29993, 21), (BY_HAND + "." * 29000, len(BY_HAND)),
                            ("\n" * 29998, 0), ("tafl A 5 5\nground\n" + "." * 29000, 23)):
            self.assertEqual(judge(text), [-6, 1, place])

    def test_each_fault_told_behind_another(self):
        self.assertEqual(ask(rules("tafl"), rules(""), rules(BY_HAND), rules("x")),
                         [[-6, 1, 4], [-6, 1, 0], [0], [-6, 1, 0]])


if __name__ == "__main__":
    unittest.main()
