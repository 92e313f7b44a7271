"""turn, two and back: turns of cells and of turns (A3)."""

import unittest

from asking import BACK, FORMULAS, GREATEST, TWO, ask, ask_all, back, plain_text, rules, text_of, turn, two

SIZES = range(5, 14)
GROUNDS = [(wide, high) for wide in SIZES for high in SIZES]
TOO_BIG_TURNS = (8, 9, 12, 255, 4294967288, GREATEST)


def cells_of(wide, high):
    return [13 * y + x for y in range(high) for x in range(wide)]


def turned_table():
    """What turn answers for every ground, turn and cell."""
    asked = [(wide, high, t, cell) for wide, high in GROUNDS for t in range(8) for cell in cells_of(wide, high)]
    return dict(zip(asked, ask_all(turn(*numbers) for numbers in asked), strict=True))


class Turn(unittest.TestCase):
    @classmethod
    def setUpClass(cls):
        cls.table = turned_table()

    def test_by_hand(self):
        # d4 of a ground 7 wide and 5 high, (3, 3).
        for t, x, y in ((0, 3, 3), (1, 3, 3), (2, 3, 1), (3, 1, 3), (4, 3, 3), (5, 3, 3), (6, 3, 1), (7, 1, 3)):
            self.assertEqual(ask(turn(7, 5, t, 42)), [[13 * y + x]], t)
        # (1, 0) of the same.
        for t, x, y in ((0, 1, 0), (1, 0, 5), (2, 5, 4), (3, 4, 1), (4, 5, 0), (5, 0, 1), (6, 1, 4), (7, 4, 5)):
            self.assertEqual(ask(turn(7, 5, t, 1)), [[13 * y + x]], t)

    def test_every_ground_turn_and_cell(self):
        for (wide, high, t, cell), told in self.table.items():
            x, y = FORMULAS[t](wide, high, cell % 13, cell // 13)
            self.assertEqual(told, [13 * y + x], (wide, high, t, cell))

    def test_every_cell_comes_to_one_of_its_own(self):
        for wide, high in GROUNDS:
            for t in range(8):
                behind = (high, wide) if t % 2 else (wide, high)
                come = sorted(self.table[wide, high, t, cell][0] for cell in cells_of(wide, high))
                self.assertEqual(come, cells_of(*behind), (wide, high, t))

    def test_two_make_one(self):
        # A3, over every ground and every cell.
        both = {(t, u): ask(two(t, u))[0][0] for t in range(8) for u in range(8)}
        for (wide, high, t, cell), told in self.table.items():
            behind = (high, wide) if t % 2 else (wide, high)
            for u in range(8):
                at_once = self.table[wide, high, both[t, u], cell]
                if self.table[(*behind, u, told[0])] != at_once:
                    self.fail(f"{t} and {u} on cell {cell} of a ground {wide} wide and {high} high")

    def test_each_is_undone(self):
        undone = [ask(back(t))[0][0] for t in range(8)]
        for (wide, high, t, cell), told in self.table.items():
            behind = (high, wide) if t % 2 else (wide, high)
            self.assertEqual(self.table[(*behind, undone[t], told[0])], [cell], (wide, high, t, cell))


class RefusedTurn(unittest.TestCase):
    def check(self, *numbers):
        self.assertEqual(ask(turn(*numbers)), [[-1]], numbers)

    def test_sizes(self):
        for size in (0, 1, 4, 14, 15, 255, 65536 + 7, GREATEST):
            for t in (0, 1, 4, 7):
                self.check(size, 7, t, 0)
                self.check(7, size, t, 0)
                self.check(size, size, t, 0)
        for size in (5, 13):
            self.assertEqual(ask(turn(size, 7, 0, 0), turn(7, size, 0, 0)), [[0], [0]])

    def test_turns(self):
        for t in TOO_BIG_TURNS:
            self.check(5, 5, t, 0)
            self.check(13, 8, t, 42)

    def test_every_cell_that_is_not_there(self):
        refused = []
        for wide, high in GROUNDS:
            there = set(cells_of(wide, high))
            refused += [turn(wide, high, 7 & cell, cell) for cell in range(200) if cell not in there]
            for t in range(8):
                # Beside the first row and the last, and above the first column and the last.
                refused += [turn(wide, high, t, cell) for cell in (wide, 13 * (high - 1) + wide) if wide < 13]
                refused += [turn(wide, high, t, cell) for cell in (13 * high, 13 * high + wide - 1, GREATEST)]
        told = ask_all(refused)
        for call, answer in zip(refused, told, strict=True):
            self.assertEqual(answer, [-1], call)

    def test_several_at_once(self):
        self.check(4, 14, 8, GREATEST)
        self.check(GREATEST, GREATEST, GREATEST, GREATEST)
        self.check(0, 0, 0, 0)

    def test_the_next_call_stands_behind(self):
        self.assertEqual(ask(turn(4, 1, 2, 3), turn(5, 5, 8, 5), turn(5, 5, 2, 5), turn(5, 5, 2, 4)),
                         [[-1], [-1], [-1], [52]])


class Two(unittest.TestCase):
    def test_all_sixty_four(self):
        told = ask(*[two(t, u) for t in range(8) for u in range(8)])
        self.assertEqual(told, [[TWO[t][u]] for t in range(8) for u in range(8)])

    def test_not_the_other_way_round(self):
        # A quarter to the right and then mirrored is not the same as mirrored and then a quarter.
        self.assertEqual(ask(two(1, 4), two(4, 1)), [[7], [5]])

    def test_the_table_is_of_the_formulas(self):
        # On a ground without equal sides, with a cell that no two turns take to the same one.
        for t in range(8):
            for u in range(8):
                behind = (5, 8) if t % 2 else (8, 5)
                by_both = FORMULAS[u](*behind, *FORMULAS[t](8, 5, 2, 1))
                self.assertEqual(by_both, FORMULAS[TWO[t][u]](8, 5, 2, 1), (t, u))

    def test_refused(self):
        for t in TOO_BIG_TURNS:
            for u in (*range(8), *TOO_BIG_TURNS):
                self.assertEqual(ask(two(t, u), two(u, t), two(7, 7)), [[-1], [-1], [0]], (t, u))


class Back(unittest.TestCase):
    def test_all_eight(self):
        self.assertEqual(ask(*[back(t) for t in range(8)]), [[t] for t in BACK])

    def test_with_two(self):
        for t in range(8):
            u = ask(back(t))[0][0]
            self.assertEqual(ask(two(t, u), two(u, t), back(u)), [[0], [0], [t]], t)

    def test_refused(self):
        for t in TOO_BIG_TURNS:
            self.assertEqual(ask(back(t), back(7)), [[-1], [7]], t)


class WithAndWithoutRules(unittest.TestCase):
    def test_they_answer_alike(self):
        calls = [two(t, u) for t in (*range(9), GREATEST) for u in (*range(9), GREATEST)]
        calls += [back(t) for t in (*range(9), GREATEST)]
        calls += [turn(wide, high, t, cell) for wide, high in ((5, 5), (13, 6), (6, 13), (4, 7), (7, 14))
                  for t in (*range(9), GREATEST) for cell in (0, 17, 80, GREATEST)][:185]
        told = ask(*calls)
        self.assertIn([-1], told)
        for text in (text_of(), plain_text(13, 6), plain_text(6, 13, ground=[(0, 0, "#")])):
            self.assertEqual(ask(rules(text), *calls), [[0], *told])
            self.assertEqual(ask(rules(text[:-1]), *calls)[1:], told)


if __name__ == "__main__":
    unittest.main()
