"""name, facts and cells behind right texts, and their refusals."""

import random
import unittest

from asking import FACTS, GREATEST, NAME, TURNS, ask, cells, codes, listed, plain_text, rules, text_of

# Width 7, height 5, with every sign of both boards; the name's K and S are neither king nor seat.
OBLONG = text_of(
    ground=["X..#..X", ".......", "...S...", "#......", "X.....X"],
    start=[".h...h.", "..m....", "h.mK..h", "....m..", ".h...h."],
    name="KSx9", first="king", king="steps armed four", seat="passed hunters", exits="all", goal="exits",
    thrice="hunters", limit=60000)


def told(text, *calls):
    """What the calls answer behind a right text."""
    answers = ask(rules(text), *calls)
    assert answers[0] == [0], answers[0]
    return answers[1:] if len(calls) > 1 else answers[1]


class Name(unittest.TestCase):
    def test_names(self):
        for name in ("A", "z", "Brandub", "KSx9", "Q" * 16, "b123456789012345"):
            self.assertEqual(told(text_of(name=name), NAME), listed(codes(name)))

    def test_by_hand(self):
        self.assertEqual(told(text_of(name="Ab7"), NAME), [0, 3, 65, 98, 55])


class Facts(unittest.TestCase):
    # wide, high, first, slides, armed, four, passed, seat, exits, goal, thrice, limit, king's cell
    def test_by_hand(self):
        self.assertEqual(told(OBLONG, FACTS), [0, 13, 7, 5, 1, 0, 1, 1, 1, 1, 3, 1, 1, 60000, 13 * 2 + 3])
        self.assertEqual(told(text_of(), FACTS), [0, 13, 5, 5, 0, 1, 1, 0, 0, 3, 2, 1, 0, 200, 13 * 2 + 2])

    def test_each_word(self):
        for line, words, changes in (
                ("first", "hunters", {2: 0}), ("first", "king", {2: 1}),
                ("king", "slides armed two", {3: 1, 4: 1, 5: 0}), ("king", "steps bare four", {3: 0, 4: 0, 5: 1}),
                ("king", "slides bare four", {3: 1, 4: 0, 5: 1}), ("king", "steps armed two", {3: 0, 4: 1, 5: 0}),
                ("king", "slides armed four", {3: 1, 4: 1, 5: 1}), ("king", "steps bare two", {3: 0, 4: 0, 5: 0}),
                ("king", "slides bare two", {3: 1, 4: 0, 5: 0}), ("king", "steps armed four", {3: 0, 4: 1, 5: 1}),
                ("seat", "passed quiet", {6: 1, 7: 0}), ("seat", "passed hunters", {6: 1, 7: 1}),
                ("seat", "passed men", {6: 1, 7: 2}), ("seat", "passed all", {6: 1, 7: 3}),
                ("seat", "barred quiet", {6: 0, 7: 0}), ("seat", "barred hunters", {6: 0, 7: 1}),
                ("seat", "barred men", {6: 0, 7: 2}), ("seat", "barred all", {6: 0, 7: 3}),
                ("exits", "quiet", {8: 0}), ("exits", "hunters", {8: 1}), ("exits", "men", {8: 2}),
                ("exits", "all", {8: 3}), ("goal", "edge", {9: 0}), ("goal", "exits", {9: 1}),
                ("thrice", "drawn", {10: 0}), ("thrice", "hunters", {10: 1}), ("thrice", "king", {10: 2}),
                ("limit", "1", {11: 1}), ("limit", "59999", {11: 59999}), ("limit", "60000", {11: 60000})):
            facts = [5, 5, 0, 1, 1, 0, 0, 3, 2, 1, 0, 200, 28]
            for index, number in changes.items():
                facts[index] = number
            self.assertEqual(told(text_of(**{line: words}), FACTS), listed(facts), (line, words))

    def test_sizes_and_kings_cells(self):
        for wide in (5, 6, 9, 10, 13):
            for high in (5, 8, 10, 12, 13):
                for x, y in ((1, 1), (wide - 2, 1), (1, high - 2), (wide - 2, high - 2)):
                    facts = told(plain_text(wide, high, start=[(x, y, "K"), (2, 2, "h")]), FACTS)
                    self.assertEqual(facts[2:4] + facts[14:], [wide, high, 13 * y + x])

    def test_d4(self):
        self.assertEqual(told(plain_text(7, 7, start=[(3, 3, "K"), (0, 0, "h")]), FACTS)[14], 42)


class Cells(unittest.TestCase):
    def test_by_hand(self):
        self.assertEqual(told(OBLONG, cells(0)), [0, 1, 29])
        self.assertEqual(told(OBLONG, cells(1)), [0, 4, 0, 6, 52, 58])
        self.assertEqual(told(OBLONG, cells(2)), [0, 2, 13, 55])
        self.assertEqual(told(OBLONG, cells(3)), [0, 6, 1, 5, 26, 32, 53, 57])
        self.assertEqual(told(OBLONG, cells(4)), [0, 3, 17, 28, 41])

    def test_empty(self):
        bare = plain_text(5, 5)
        self.assertEqual(told(bare, *[cells(k) for k in range(5)]), [[0, 0], [0, 0], [0, 0], [0, 1, 42], [0, 0]])

    def test_k_above_4(self):
        for k in (5, 6, 12, 13, 255, 65536, GREATEST):
            self.assertEqual(told(OBLONG, cells(k)), [-1], k)

    def test_corners_of_the_greatest_ground(self):
        text = plain_text(13, 13, ground=[(0, 0, "X"), (12, 0, "X"), (0, 12, "#"), (12, 12, "S")])
        self.assertEqual(told(text, *[cells(k) for k in range(3)]), [[0, 1, 168], [0, 2, 0, 12], [0, 1, 156]])

    def test_random_boards(self):
        source = random.Random(3)
        for _ in range(200):
            wide, high = source.randrange(5, 14), source.randrange(5, 14)
            spots = [(x, y) for y in range(high) for x in range(wide)]
            source.shuffle(spots)
            king = next((x, y) for x, y in spots if 0 < x < wide - 1 and 0 < y < high - 1)
            spots.remove(king)
            parts = [spots[:1], spots[1:source.randrange(2, 9)], spots[10:source.randrange(11, 14)],
                     spots[14:source.randrange(15, 20)], spots[20:source.randrange(20, 25)]]
            ground = [(x, y, sign) for sign, part in zip("SX#", parts) for x, y in part]
            start = [(x, y, sign) for sign, part in zip("hm", parts[3:]) for x, y in part]
            text = plain_text(wide, high, ground, [*start, (*king, "K")])
            for k, part in enumerate(parts):
                self.assertEqual(told(text, cells(k)), listed(sorted(13 * y + x for x, y in part)), text)


class WithoutRules(unittest.TestCase):
    def test_each_call(self):
        for call in (NAME, FACTS, TURNS, *[cells(k) for k in (0, 1, 2, 3, 4, 5, 6, GREATEST)]):
            self.assertEqual(ask(call), [[-3]], call)

    def test_one_behind_another(self):
        # k is no call of its own, whatever number it is.
        calls = [cells(1), NAME, cells(4), cells(GREATEST), FACTS, TURNS, cells(0)]
        self.assertEqual(ask(*calls), [[-3]] * 7)

    def test_behind_a_refused_text(self):
        self.assertEqual(ask(rules(OBLONG[:-1]), NAME, FACTS, cells(0), cells(9), TURNS),
                         [[-6, 1, len(OBLONG) - 1], [-3], [-3], [-3], [-3], [-3]])
        text = plain_text(5, 5, start=[(1, 1, "K")])
        self.assertEqual(ask(rules(text), NAME, FACTS, cells(0), cells(9), TURNS),
                         [[-6, 6, len(text)], [-3], [-3], [-3], [-3], [-3]])


if __name__ == "__main__":
    unittest.main()
