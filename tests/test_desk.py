"""desk.answers: lists of calls and answers, and what an object keeps (A5)."""

import copy
import random
import unittest

from asking import BACK, FACTS, FORMULAS, GREATEST, NAME, TEXT, TURNS, TWO, ask, back, cells, codes, expected, judge, \
    listed, made_text, make, plain_text, random_text, rows_of, rules, text_of, turn, two
from hallrules.desk import UnknownCall, answers

SMALL = text_of()
OTHER = plain_text(13, 6, name="Other", first="king", limit=7, ground=[(2, 4, "#")])
ROWS = rows_of(OTHER)
REFUSED = [cells(5), cells(GREATEST), make([], *ROWS[1:]), make(*ROWS[:1], ROWS[1] + [0], *ROWS[2:]),
           turn(4, 5, 0, 0), turn(5, 5, 8, 0), turn(5, 5, 0, 5), two(8, 0), two(0, 8), two(GREATEST, GREATEST), back(8),
           back(GREATEST)]
ALL_CALLS = [NAME, FACTS, *[cells(k) for k in range(6)], TURNS, TEXT, make(*ROWS), turn(5, 8, 3, 42), two(1, 4),
             back(3)]

FAULTY = [
    "", SMALL[:-1], SMALL + "\n",
    plain_text(5, 5, ground=[(0, 0, "S"), (1, 0, "S")]),
    plain_text(5, 5, ground=[(3, 3, "#")]),
    plain_text(5, 5, start=[(1, 1, "K"), (2, 1, "K"), (3, 3, "h")]),
    plain_text(5, 5, goal="exits"),
    plain_text(5, 5, start=[(0, 1, "K"), (3, 3, "h")]),
    plain_text(5, 5, start=[(1, 1, "K")]),
]


def joined(*calls):
    return [number for call in calls for number in call]


class Form(unittest.TestCase):
    def test_answers_in_order_with_their_counts(self):
        calls = joined(NAME, rules(text_of(name="Ab")), NAME, cells(0), cells(5), rules("x"), TURNS)
        self.assertEqual(answers(calls), [1, -3, 1, 0, 4, 0, 2, 65, 98, 3, 0, 1, 28, 1, -1, 3, -6, 1, 0,
                                          10, 0, 8, 0, 1, 2, 3, 4, 5, 6, 7])

    def test_facts_with_both_counts(self):
        told = answers(joined(rules(SMALL), FACTS))
        self.assertEqual(told[:5], [1, 0, 15, 0, 13])
        self.assertEqual(len(told), 2 + 1 + 15)

    def test_empty_text(self):
        self.assertEqual(answers([0, 0]), [3, -6, 1, 0])
        self.assertEqual(answers([0, 0, 0, 0, 1]), [3, -6, 1, 0, 3, -6, 1, 0, 1, -3])

    def test_kinds(self):
        told = answers(joined(rules(SMALL), *ALL_CALLS, rules("")))
        self.assertIs(type(told), list)
        self.assertEqual({type(number) for number in told}, {int})

    def test_turn_two_and_back_answer_one_number(self):
        calls = joined(turn(5, 5, 0, 0), turn(5, 5, 1, 0), two(1, 2), back(1), turn(4, 5, 1, 0), two(8, 1), back(8))
        self.assertEqual(answers(calls), [1, 0, 1, 52, 1, 3, 1, 3, 1, -1, 1, -1, 1, -1])

    def test_text_and_make_with_both_counts(self):
        size = len(OTHER)
        told = answers(joined(rules(OTHER), TEXT, make(*ROWS), make([], *ROWS[1:])))
        self.assertEqual(told, [1, 0, size + 2, 0, size, *codes(OTHER), size + 2, 0, size, *codes(OTHER), 1, -8])

    def test_a_rows_numbers_are_no_calls(self):
        self.assertEqual(ask([0, 6, 1, 2, 3, 4, 0, 1], NAME), [[-6, 1, 0], [-3]])
        self.assertEqual(ask(make([5, 9], [7, 6], [1, 1], [8], [2, 5], [4], [9, 0]), NAME), [[-8], [-3]])

    def test_a_number_of_no_call(self):
        for number in (10, GREATEST):
            with self.assertRaises(UnknownCall):
                answers([number])


class Kept(unittest.TestCase):
    def test_refused_texts_change_nothing(self):
        before = ask(rules(SMALL), *ALL_CALLS)[1:]
        for text in FAULTY:
            told = ask(rules(SMALL), rules(text), *ALL_CALLS)
            self.assertEqual(told[1][0], -6)
            self.assertEqual(told[2:], before)

    def test_faulty_texts_have_every_kind(self):
        self.assertEqual({judge(text)[1] for text in FAULTY}, {1, 2, 3, 4, 5, 6})

    def test_other_refused_calls_change_nothing(self):
        before = ask(rules(SMALL), *ALL_CALLS)[1:]
        for call in REFUSED:
            told = ask(rules(SMALL), call, *ALL_CALLS)
            self.assertEqual(told[1], [-8] if call[0] == 6 else [-1], call)
            self.assertEqual(told[2:], before, call)

    def test_refused_calls_leave_an_object_without_rules(self):
        without = ask(*ALL_CALLS)
        self.assertEqual(without.count([-3]), 10)
        for call in [*REFUSED, *[rules(text) for text in FAULTY], NAME, TEXT]:
            told = ask(call, *ALL_CALLS)
            self.assertEqual(len(told[0]), 3 if call[0] == 0 else 1, call)
            self.assertLess(told[0][0], 0, call)
            self.assertEqual(told[1:], without, call)

    def test_a_second_right_text(self):
        told = ask(rules(SMALL), *ALL_CALLS, rules(OTHER), *ALL_CALLS)
        count = len(ALL_CALLS)
        self.assertEqual(told[1:1 + count], ask(rules(SMALL), *ALL_CALLS)[1:])
        self.assertEqual(told[1 + count:], ask(rules(OTHER), *ALL_CALLS))
        self.assertEqual(told[2 + count], listed(codes("Other")))

    def test_asking_changes_nothing(self):
        told = ask(rules(SMALL), *ALL_CALLS, *reversed(ALL_CALLS), *ALL_CALLS)[1:]
        count = len(ALL_CALLS)
        self.assertEqual(told[:count], told[2 * count:])
        self.assertEqual(told[:count], told[count:2 * count][::-1])

    def test_right_behind_refused(self):
        told = ask(*[rules(text) for text in FAULTY], NAME, rules(SMALL), NAME)
        self.assertEqual(told[len(FAULTY):], [[-3], [0], listed(codes("Brandub"))])


class Times(unittest.TestCase):
    def test_what_is_handed_in_stays(self):
        calls = joined(rules(SMALL), *ALL_CALLS, rules(""), rules(OTHER), *ALL_CALLS, *REFUSED)
        same = copy.deepcopy(calls)
        answers(calls)
        self.assertEqual(calls, same)

    def test_twice(self):
        calls = joined(NAME, rules(SMALL), *ALL_CALLS, rules(SMALL[:9]), *ALL_CALLS, *REFUSED, *ALL_CALLS)
        self.assertEqual(answers(calls), answers(calls))

    def test_nothing_is_kept(self):
        answers(joined(rules(SMALL), NAME))
        self.assertEqual(answers(NAME), [1, -3])
        self.assertEqual(answers(joined(FACTS, cells(0), TURNS, TEXT)), [1, -3, 1, -3, 1, -3, 1, -3])
        answers(make(*ROWS))
        self.assertEqual(answers(TEXT), [1, -3])

    def test_an_answer_is_the_askers_own(self):
        calls = joined(rules(SMALL), *ALL_CALLS, rules(""))
        once = answers(calls)
        told = list(once)
        once.clear()
        self.assertEqual(answers(calls), told)


class Many(unittest.TestCase):
    def test_300_calls_and_30000_numbers(self):
        calls = []
        plan = []
        while len(plan) < 300 and len(calls) + len(SMALL) + 2 + 300 - len(plan) <= 30000:
            calls.extend(rules(SMALL))
            plan.append([0])
        while len(plan) < 300:
            calls.extend(TURNS)
            plan.append([0, 8, 0, 1, 2, 3, 4, 5, 6, 7])
        self.assertGreater(len(calls), 29500)
        self.assertEqual(answers(calls), joined(*[[len(told), *told] for told in plan]))

    def test_300_short_calls(self):
        greatest = plain_text(13, 13)
        told = ask(rules(greatest), *[TURNS] * 299)
        self.assertEqual(told, [[0]] + [[0, 8, 0, 1, 2, 3, 4, 5, 6, 7]] * 299)
        self.assertEqual(ask(*[cells(3)] * 300), [[-3]] * 300)

    def test_one_text_of_29998_bytes(self):
        text = SMALL + "h" * (29998 - len(SMALL))
        calls = rules(text)
        self.assertEqual(len(calls), 30000)
        self.assertEqual(answers(calls), [3, -6, 1, len(SMALL)])

    def test_many_texts_by_turns(self):
        texts = [SMALL, OTHER, *FAULTY]
        kept, plan, calls = None, [], []
        for k in range(90):
            text = texts[k * 7 % len(texts)]
            told = judge(text)
            kept = text if told == [0] else kept
            calls.extend([rules(text), NAME])
            plan.extend([told, ask(rules(kept), NAME)[1] if kept else [-3]])
        self.assertLessEqual(len(joined(*calls)), 30000)
        self.assertEqual(ask(*calls), plan)


class LongRows(unittest.TestCase):
    def test_one_row_of_nearly_30000_numbers(self):
        for at in range(7):
            for filled in (97, 0, 9, 255) if at == 0 else (0, 14, 170, GREATEST):
                rows = [list(row) for row in ROWS]
                rest = len(make(*rows)) - len(rows[at])
                rows[at] = [filled] * (30000 - rest - len(NAME))
                self.check(rows)

    def test_rising_rows(self):
        for at in range(1, 7):
            rows = [list(row) for row in ROWS]
            rows[at] = list(range(29900))
            self.check(rows)
            rows[at].append(GREATEST)
            self.check(rows)

    def test_right_facts_ahead_of_more(self):
        rows = [list(row) for row in ROWS]
        rows[1] += [0] * 29800
        self.check(rows)
        rows = [list(row) for row in ROWS]
        rows[0] += codes("a") * 29800
        self.check(rows)

    def check(self, rows):
        calls = make(*rows) + NAME
        self.assertLessEqual(len(calls), 30000)
        same = list(calls)
        self.assertEqual(answers(calls), [1, -8, 1, -3])
        self.assertEqual(calls, same)


def come_to(wide, high, t, cell):
    if not (5 <= wide <= 13 and 5 <= high <= 13 and t < 8 and cell % 13 < wide and cell // 13 < high):
        return [-1]
    x, y = FORMULAS[t](wide, high, cell % 13, cell // 13)
    return [13 * y + x]


def fitting(text):
    wide, high, *others = rows_of(text)[1]
    kinds = {cell: k for k, row in enumerate(rows_of(text)[2:5]) for cell in row}
    every = [13 * y + x for y in range(high) for x in range(wide)]
    return [t for t in range(8) if (t % 2 == 0 or wide == high) and all(
        kinds.get(cell) == kinds.get(come_to(wide, high, t, cell)[0]) for cell in every)]


def foreseen(kept, call):
    """What a call on an object with this text, or with None, is to answer."""
    number = call[0]
    if number in (1, 2, 3, 4, 5) and kept is None:
        return [-3]
    if number in (1, 2):
        return listed(rows_of(kept)[number - 1])
    if number == 3:
        return listed(rows_of(kept)[2 + call[1]]) if call[1] < 5 else [-1]
    if number == 4:
        return listed(fitting(kept))
    if number == 5:
        return listed(codes(kept))
    if number == 6:
        rows, at = [], 1
        while at < len(call):
            rows.append(call[at + 1:at + 1 + call[at]])
            at += 1 + call[at]
        text = made_text(*rows)
        return [-8] if text is None else listed(codes(text))
    if number == 7:
        return come_to(*call[1:])
    if number == 8:
        return [TWO[call[1]][call[2]]] if call[1] < 8 and call[2] < 8 else [-1]
    return [BACK[call[1]]] if call[1] < 8 else [-1]


def some_text(source, wide, high):
    text = random_text(source, wide, high, *[source.randrange(2) for _ in range(4)])
    if source.randrange(3) == 0:
        at = source.randrange(len(text))
        text = text[:at] + source.choice(".hK#S\n ") + text[at + source.randrange(2):]
    return text


def some_call(source, number, text):
    """A call with this number, refused now and then."""
    turns = [*range(8), *range(8), 8, GREATEST]
    if number == 0:
        return rules(text)
    if number == 3:
        return cells(source.choice([0, 1, 2, 3, 4, 5, GREATEST]))
    if number == 6:
        rows = rows_of(text) if expected(text) == [0] else [list(row) for row in ROWS]
        if source.randrange(3) == 0:
            source.choice(rows).append(source.choice([0, 66, 255]))
        return make(*rows)
    if number == 7:
        size = source.choice([4, 14, *range(5, 14), *range(5, 14)])
        return turn(source.randrange(5, 14), size, source.choice(turns), source.choice([*range(120), 169, GREATEST]))
    if number == 8:
        return two(source.choice(turns), source.choice(turns))
    if number == 9:
        return back(source.choice(turns))
    return [number]


class Mixed(unittest.TestCase):
    def run_mixed(self, source, sizes, numbers):
        """A list of calls, filled up to the bounds; answers how many calls and numbers it has."""
        calls, plan, kept = [], [], None
        while len(calls) < 300:
            text = some_text(source, source.choice(sizes), source.choice(sizes))
            call = some_call(source, source.choice(numbers), text)
            if len(joined(*calls, call)) > 30000:
                break
            told = expected(text) if call[0] == 0 else foreseen(kept, call)
            kept = text if call[0] == 0 and told == [0] else kept
            calls.append(call)
            plan.append(told)
        handed = joined(*calls)
        same = list(handed)
        self.assertEqual(ask(*calls), plan)
        once = answers(handed)
        self.assertEqual(once, joined(*[[len(told), *told] for told in plan]))
        self.assertEqual(handed, same)
        self.assertEqual(answers(handed), once)
        self.refusals.update((call[0], told[0]) for call, told in zip(calls, plan) if told[0] < 0)
        return len(calls), len(handed)

    def test_up_to_300_calls(self):
        self.refusals = set()
        source = random.Random(31)
        for _ in range(12):
            count, size = self.run_mixed(source, [5, 6], [*range(10), 1, 2, 3, 4, 5, 7, 8, 9])
            self.assertEqual(count, 300)
        self.assertEqual(self.refusals, {(0, -6), (1, -3), (2, -3), (3, -3), (3, -1), (4, -3), (5, -3), (6, -8),
                                         (7, -1), (8, -1), (9, -1)})

    def test_up_to_30000_numbers(self):
        self.refusals = set()
        source = random.Random(32)
        for _ in range(6):
            count, size = self.run_mixed(source, [7, 10, 13], [*range(10), 0, 0, 0, 0, 6])
            self.assertGreater(size, 29000)


if __name__ == "__main__":
    unittest.main()
