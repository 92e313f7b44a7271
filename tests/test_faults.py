"""rules: the faults of kinds 2 to 6, and which of several is the first (A1)."""

import random
import unittest

import asking
from asking import ground_place, judge, judge_all, plain_text, start_place, text_of

KING_AND_HUNTER = [(1, 1, "K"), (3, 3, "h")]


class SecondSeat(unittest.TestCase):
    def test_second_and_third(self):
        text = plain_text(6, 5, ground=[(2, 4, "S"), (5, 3, "S")])
        self.assertEqual(judge(text), [-6, 2, ground_place(text, 5, 3)])
        text = plain_text(6, 5, ground=[(2, 4, "S"), (5, 3, "S"), (0, 0, "S")])
        self.assertEqual(judge(text), [-6, 2, ground_place(text, 5, 3)])

    def test_the_text_is_gone_through_from_the_uppermost_row(self):
        # By its number (4, 0) is the first; in the text it's the last.
        text = plain_text(5, 5, ground=[(4, 0, "S"), (0, 4, "S"), (2, 2, "S")])
        self.assertEqual(judge(text), [-6, 2, ground_place(text, 2, 2)])

    def test_side_by_side(self):
        text = plain_text(5, 5, ground=[(0, 4, "S"), (1, 4, "S")])
        self.assertEqual(judge(text), [-6, 2, len("tafl Brandub 5 5\nground\nS")])

    def test_one_seat_and_an_s_in_the_name(self):
        self.assertEqual(judge(plain_text(5, 5, ground=[(0, 4, "S")], name="SSS")), [0])


class WrongPieces(unittest.TestCase):
    def test_every_piece_on_every_kind_of_cell(self):
        for kind in ".SX#":
            for piece in ".hmK":
                others = [(0, 1, "h")] if piece == "K" else KING_AND_HUNTER
                text = plain_text(7, 6, ground=[(4, 2, kind)], start=[*others, (4, 2, piece)])
                right = piece == "." or kind == "." or (kind == "S" and piece == "K")
                told = [0] if right else [-6, 3, start_place(text, 4, 2)]
                self.assertEqual(judge(text), told, (kind, piece))

    def test_first_of_several(self):
        text = plain_text(5, 5, ground=[(2, 0, "#"), (4, 3, "X"), (0, 2, "S")],
                          start=[*KING_AND_HUNTER, (2, 0, "m"), (4, 3, "h"), (0, 2, "m")])
        self.assertEqual(judge(text), [-6, 3, start_place(text, 4, 3)])

    def test_piece_on_a_second_seat(self):
        text = plain_text(5, 5, ground=[(2, 4, "S"), (3, 3, "S")])
        self.assertEqual(judge(text), [-6, 2, ground_place(text, 3, 3)])


class SecondKing(unittest.TestCase):
    def test_second_and_third(self):
        text = plain_text(5, 6, start=[*KING_AND_HUNTER, (3, 1, "K")])
        self.assertEqual(judge(text), [-6, 4, start_place(text, 3, 1)])
        text = plain_text(5, 6, start=[*KING_AND_HUNTER, (3, 1, "K"), (0, 0, "K")])
        self.assertEqual(judge(text), [-6, 4, start_place(text, 3, 1)])

    def test_a_k_in_the_name_is_no_king(self):
        self.assertEqual(judge(plain_text(5, 5, name="KKK")), [0])
        text = plain_text(5, 5, name="K", start=[(3, 3, "h")])
        self.assertEqual(judge(text), [-6, 6, len(text)])

    def test_wrongly_standing_kings(self):
        # On a wall or an exit it's a fault of kind 3 too, which is the lesser.
        for kind, told in (("#", 3), ("X", 3), ("S", 4), (".", 4)):
            text = plain_text(5, 5, ground=[(3, 0, kind)], start=[*KING_AND_HUNTER, (3, 0, "K")])
            self.assertEqual(judge(text), [-6, told, start_place(text, 3, 0)], kind)

    def test_first_king_wrong_ahead_of_the_second(self):
        text = plain_text(5, 5, ground=[(1, 4, "#")], start=[(1, 4, "K"), (2, 4, "K"), (3, 3, "h")])
        self.assertEqual(judge(text), [-6, 3, start_place(text, 1, 4)])

    def test_second_king_ahead_of_a_wrong_piece(self):
        text = plain_text(5, 5, ground=[(4, 0, "#")], start=[(1, 4, "K"), (2, 4, "K"), (4, 0, "h")])
        self.assertEqual(judge(text), [-6, 4, start_place(text, 2, 4)])


class WrongGoal(unittest.TestCase):
    def goal_place(self, text):
        return text.index("\ngoal ") + 6

    def test_exits_without_an_exit(self):
        text = plain_text(5, 7, goal="exits")
        self.assertEqual(judge(text), [-6, 5, self.goal_place(text)])
        self.assertEqual(judge(plain_text(5, 7, ground=[(2, 2, "X")], goal="exits")), [0])

    def test_king_on_each_cell(self):
        for wide, high in ((5, 5), (7, 5), (5, 8), (13, 13)):
            for x in range(wide):
                for y in range(high):
                    hunter = (2, 2, "h") if (x, y) != (2, 2) else (1, 2, "h")
                    text = plain_text(wide, high, start=[(x, y, "K"), hunter])
                    edge = x in (0, wide - 1) or y in (0, high - 1)
                    told = [-6, 5, self.goal_place(text)] if edge else [0]
                    self.assertEqual(judge(text), told, (wide, high, x, y))

    def test_king_on_the_edge_where_the_goal_is_exits(self):
        for x, y in ((0, 2), (4, 2), (2, 0), (2, 4), (0, 0), (4, 4)):
            text = plain_text(5, 5, ground=[(1, 4, "X")], start=[(x, y, "K"), (3, 3, "h")], goal="exits")
            self.assertEqual(judge(text), [0], (x, y))

    def test_several_kings(self):
        # The second K is told, as it stands ahead of the goal.
        for kings in ([(0, 4), (2, 2)], [(2, 2), (4, 0)], [(0, 3), (0, 2), (0, 1)]):
            text = plain_text(5, 5, start=[(3, 3, "h"), *[(x, y, "K") for x, y in kings]])
            self.assertEqual(judge(text), [-6, 4, start_place(text, *kings[1])], kings)

    def test_no_king(self):
        text = plain_text(5, 5, start=[(0, 0, "h")])
        self.assertEqual(judge(text), [-6, 6, len(text)])
        text = plain_text(5, 5, start=[(0, 0, "h")], goal="exits")
        self.assertEqual(judge(text), [-6, 5, self.goal_place(text)])

    def test_ahead_of_what_lacks(self):
        text = plain_text(5, 5, start=[(0, 2, "K")], seat="barred all")
        self.assertEqual(judge(text), [-6, 5, self.goal_place(text)])


class Lacks(unittest.TestCase):
    def test_no_king(self):
        text = plain_text(5, 5, start=[(3, 3, "h"), (2, 2, "m")])
        self.assertEqual(judge(text), [-6, 6, len(text)])

    def test_no_hunter(self):
        text = plain_text(5, 5, start=[(1, 1, "K"), (2, 2, "m")])
        self.assertEqual(judge(text), [-6, 6, len(text)])

    def test_no_seat(self):
        for way in ("passed", "barred"):
            for enmity in ("quiet", "hunters", "men", "all"):
                text = plain_text(5, 5, seat=f"{way} {enmity}")
                told = [0] if (way, enmity) == ("passed", "quiet") else [-6, 6, len(text)]
                self.assertEqual(judge(text), told, (way, enmity))
                text = plain_text(5, 5, seat=f"{way} {enmity}", ground=[(4, 0, "S")])
                self.assertEqual(judge(text), [0], (way, enmity))

    def test_an_s_in_the_name_is_no_seat(self):
        text = plain_text(5, 5, name="S", seat="barred quiet")
        self.assertEqual(judge(text), [-6, 6, len(text)])

    def test_no_men_and_no_exits_are_no_fault(self):
        self.assertEqual(judge(plain_text(5, 5, exits="all")), [0])

    def test_all_lacks_at_once(self):
        text = plain_text(13, 13, start=[], seat="barred men", limit=60000)
        self.assertEqual(judge(text), [-6, 6, len(text)])


class SeveralFaults(unittest.TestCase):
    def test_one_mended_after_another(self):
        start = [(1, 4, "m"), (0, 2, "K"), (1, 2, "K")]
        text = plain_text(5, 5, ground=[(0, 4, "S"), (2, 4, "S"), (1, 4, "#")], start=start, seat="barred all")
        self.assertEqual(judge(text), [-6, 2, ground_place(text, 2, 4)])
        text = plain_text(5, 5, ground=[(1, 4, "#")], start=start, seat="barred all")
        self.assertEqual(judge(text), [-6, 3, start_place(text, 1, 4)])
        text = plain_text(5, 5, start=start, seat="barred all")
        self.assertEqual(judge(text), [-6, 4, start_place(text, 1, 2)])
        text = plain_text(5, 5, start=start[:2], seat="barred all")
        self.assertEqual(judge(text), [-6, 5, text.index("\ngoal ") + 6])
        text = plain_text(5, 5, start=[(1, 2, "K")], seat="barred all")
        self.assertEqual(judge(text), [-6, 6, len(text)])
        self.assertEqual(judge(plain_text(5, 5, start=[(1, 2, "K"), (0, 0, "h")])), [0])

    def test_places_by_hand(self):
        # 17 bytes of head, 7 of "ground", 5 rows of 6, 6 of "start": the start's rows begin at 60.
        text = text_of(start=["h.h..", "..m..", "hmK.h", ".....", "..h.."])
        self.assertEqual(judge(text), [-6, 3, 60])
        text = text_of(start=["..h..", "..m..", "hmK.h", ".....", "..h.K"])
        self.assertEqual(judge(text), [-6, 3, 60 + 4 * 6 + 4])
        text = text_of(start=["..h..", "..m..", "hmK.h", ".....", "..hK."])
        self.assertEqual(judge(text), [-6, 4, 60 + 4 * 6 + 3])

    def random_text(self, source):
        wide, high = source.randrange(5, 14), source.randrange(5, 14)
        few = source.choice((0, 1, 2, 4))
        spot = lambda signs: (source.randrange(wide), source.randrange(high), source.choice(signs))
        ground = [spot("SX#") for _ in range(source.randrange(few + 1))]
        start = [spot("hmK") for _ in range(few)] + [spot("K"), spot("h")]
        return plain_text(wide, high, ground, start, goal=source.choice(("edge", "exits")),
                          seat=source.choice(("passed quiet", "barred quiet", "passed all")))

    def test_random_texts_against_the_second_judge(self):
        source = random.Random(2)
        texts = [self.random_text(source) for _ in range(4000)]
        kinds = set()
        for text, told in zip(texts, judge_all(texts), strict=True):
            self.assertEqual(told, asking.expected(text), text)
            kinds.add(told[1] if len(told) > 1 else 0)
        self.assertEqual(kinds, {0, 2, 3, 4, 5, 6})


if __name__ == "__main__":
    unittest.main()
