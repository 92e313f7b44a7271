"""turns: which turns fit a ground (A4)."""

import random
import unittest

from asking import FORMULAS, TURNS, ask, back, listed, plain, plain_text, rules, text_of, two


def turns(wide, high, ground):
    """What turns answers for a ground of plain cells with changes (x, y, sign)."""
    free = [(x, y) for y in range(high) for x in range(wide) if (x, y) not in {(a, b) for a, b, sign in ground}]
    king = next((x, y) for x, y in free if 0 < x < wide - 1 and 0 < y < high - 1)
    hunter = next(spot for spot in free if spot != king)
    told = ask(rules(plain_text(wide, high, ground, [(*king, "K"), (*hunter, "h")])), TURNS)
    assert told[0] == [0], told[0]
    return told[1]


def come_to(wide, high, t, x, y):
    return FORMULAS[t](wide, high, x, y)


def orbit(wide, high, group, x, y, sign):
    """A sign on a cell and on all to which it comes by some turns."""
    return [(a, b, sign) for a, b in sorted({come_to(wide, high, t, x, y) for t in group})]


SQUARE_GROUPS = [[0], [0, 2], [0, 4], [0, 5], [0, 6], [0, 7], [0, 1, 2, 3], [0, 2, 4, 6], [0, 2, 5, 7],
                 [0, 1, 2, 3, 4, 5, 6, 7]]
OBLONG_GROUPS = [[0], [0, 2], [0, 4], [0, 6], [0, 2, 4, 6]]


class ByHand(unittest.TestCase):
    def test_plain_grounds(self):
        for size in range(5, 14):
            self.assertEqual(turns(size, size, []), [0, 8, 0, 1, 2, 3, 4, 5, 6, 7])
            self.assertEqual(turns(size, 5 if size > 5 else 13, []), [0, 4, 0, 2, 4, 6])

    def test_sides_mirrored(self):
        # Left and right changed about.
        self.assertEqual(turns(5, 5, [(0, 4, "X"), (4, 4, "X")]), [0, 2, 0, 4])
        self.assertEqual(turns(7, 5, [(0, 4, "X"), (6, 4, "X")]), [0, 2, 0, 4])

    def test_above_and_below_changed(self):
        self.assertEqual(turns(5, 5, [(0, 4, "#"), (0, 0, "#")]), [0, 2, 0, 6])
        self.assertEqual(turns(5, 9, [(0, 8, "#"), (0, 0, "#")]), [0, 2, 0, 6])

    def test_half_turn(self):
        self.assertEqual(turns(5, 5, [(1, 4, "#"), (3, 0, "#")]), [0, 2, 0, 2])
        self.assertEqual(turns(6, 5, [(1, 4, "#"), (4, 0, "#")]), [0, 2, 0, 2])

    def test_both_diagonals(self):
        # By turn 5, (x, y) becomes (y, x): first (4 - x, y), then (y, 4 - (4 - x)).
        self.assertEqual(turns(5, 5, [(1, 0, "#"), (0, 1, "#")]), [0, 2, 0, 5])
        # By turn 7 it becomes (4 - y, 4 - x).
        self.assertEqual(turns(5, 5, [(3, 0, "#"), (4, 1, "#")]), [0, 2, 0, 7])

    def test_quarter_turns(self):
        self.assertEqual(turns(5, 5, [(1, 0, "#"), (0, 3, "#"), (3, 4, "#"), (4, 1, "#")]), [0, 4, 0, 1, 2, 3])

    def test_none_but_0(self):
        self.assertEqual(turns(5, 5, [(1, 0, "#")]), [0, 1, 0])
        self.assertEqual(turns(8, 5, [(1, 0, "#")]), [0, 1, 0])

    def test_kinds_are_told_apart(self):
        for one, other in (("X", "#"), ("#", "X"), ("S", "X"), ("#", "S")):
            self.assertEqual(turns(5, 5, [(0, 2, one), (4, 2, other)]), [0, 2, 0, 6], (one, other))

    def test_seat_in_the_middle_and_beside(self):
        self.assertEqual(turns(5, 5, [(2, 2, "S")]), [0, 8, 0, 1, 2, 3, 4, 5, 6, 7])
        self.assertEqual(turns(5, 5, [(2, 3, "S")]), [0, 2, 0, 4])
        self.assertEqual(turns(6, 5, [(2, 2, "S")]), [0, 2, 0, 6])

    def test_the_start_is_not_looked_at(self):
        text = text_of()
        self.assertEqual(ask(rules(text), TURNS)[1], [0, 8, 0, 1, 2, 3, 4, 5, 6, 7])
        moved = text_of(start=["h....", ".K...", ".....", ".....", "....."], ground=plain(5, 5), seat="passed quiet",
                        goal="edge")
        self.assertEqual(ask(rules(moved), TURNS)[1], [0, 8, 0, 1, 2, 3, 4, 5, 6, 7])


class EachGroup(unittest.TestCase):
    def check(self, wide, high, groups, source):
        for group in groups:
            ground = {}
            # A few orbits that don't meet: a ground that the group's turns fit, and mostly no other.
            for _ in range(4):
                spots = orbit(wide, high, group, source.randrange(wide), source.randrange(high), source.choice("X#"))
                # (1, 1) is left to the king.
                if not any((x, y) in ground or (x, y) == (1, 1) for x, y, sign in spots):
                    ground.update({(x, y): sign for x, y, sign in spots})
            changes = [(x, y, sign) for (x, y), sign in ground.items()]
            fit = [t for t in range(8) if (t % 2 == 0 or wide == high) and all(
                ground.get((x, y)) == ground.get(come_to(wide, high, t, x, y))
                for x in range(wide) for y in range(high))]
            told = turns(wide, high, changes)
            self.assertEqual(told, listed(fit), (wide, high, changes))
            self.assertLessEqual(set(group), set(fit))
            self.check_closed(told[2:])
            self.seen.add(tuple(fit))

    def check_closed(self, fit):
        # A4: 0 is one, with two the turn that does both, with each the one that undoes it.
        self.assertIn(0, fit)
        both = ask(*[two(t, u) for t in fit for u in fit])
        undone = ask(*[back(t) for t in fit])
        self.assertLessEqual({turn for told in both + undone for turn in told}, set(fit))

    def test_square(self):
        self.seen = set()
        source = random.Random(4)
        for size in range(5, 14):
            for _ in range(10):
                self.check(size, size, SQUARE_GROUPS, source)
        self.assertEqual(self.seen, {tuple(group) for group in SQUARE_GROUPS})

    def test_oblong(self):
        self.seen = set()
        source = random.Random(5)
        for wide in range(5, 14):
            for high in range(5, 14):
                if wide != high:
                    self.check(wide, high, OBLONG_GROUPS, source)
        self.assertEqual(self.seen, {tuple(group) for group in OBLONG_GROUPS})


if __name__ == "__main__":
    unittest.main()
