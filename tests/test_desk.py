"""desk.answers: lists of calls and answers, and what an object keeps (A5)."""

import copy
import unittest

from asking import FACTS, GREATEST, NAME, TURNS, ask, cells, codes, judge, listed, plain_text, rules, text_of
from hallrules.desk import UnknownCall, answers

TEXT = text_of()
OTHER = plain_text(13, 6, name="Other", first="king", limit=7, ground=[(2, 4, "#")])
ALL_CALLS = [NAME, FACTS, *[cells(k) for k in range(6)], TURNS]

FAULTY = [
    "", TEXT[:-1], TEXT + "\n",
    plain_text(5, 5, ground=[(0, 0, "S"), (1, 0, "S")]),
    plain_text(5, 5, ground=[(3, 3, "#")]),
    plain_text(5, 5, start=[(1, 1, "K"), (2, 1, "K"), (3, 3, "h")]),
    plain_text(5, 5, goal="exits"),
    plain_text(5, 5, start=[(0, 1, "K"), (3, 3, "h")]),
    plain_text(5, 5, start=[(1, 1, "K")]),
]


def joined(*calls):
    return [number for call in calls for number in call]


class Form(unittest.TestCase):
    def test_answers_in_order_with_their_counts(self):
        calls = joined(NAME, rules(text_of(name="Ab")), NAME, cells(0), cells(5), rules("x"), TURNS)
        self.assertEqual(answers(calls), [1, -3, 1, 0, 4, 0, 2, 65, 98, 3, 0, 1, 28, 1, -1, 3, -6, 1, 0,
                                          10, 0, 8, 0, 1, 2, 3, 4, 5, 6, 7])

    def test_facts_with_both_counts(self):
        told = answers(joined(rules(TEXT), FACTS))
        self.assertEqual(told[:5], [1, 0, 15, 0, 13])
        self.assertEqual(len(told), 2 + 1 + 15)

    def test_empty_text(self):
        self.assertEqual(answers([0, 0]), [3, -6, 1, 0])
        self.assertEqual(answers([0, 0, 0, 0, 1]), [3, -6, 1, 0, 3, -6, 1, 0, 1, -3])

    def test_kinds(self):
        told = answers(joined(rules(TEXT), *ALL_CALLS, rules("")))
        self.assertIs(type(told), list)
        self.assertEqual({type(number) for number in told}, {int})

    def test_a_texts_bytes_are_no_calls(self):
        self.assertEqual(ask([0, 6, 1, 2, 3, 4, 0, 1], NAME), [[-6, 1, 0], [-3]])


    def test_a_number_of_no_call(self):
        for number in (10, GREATEST):
            with self.assertRaises(UnknownCall):
                answers([number])


class Kept(unittest.TestCase):
    def test_refused_texts_change_nothing(self):
        before = ask(rules(TEXT), *ALL_CALLS)[1:]
        for text in FAULTY:
            told = ask(rules(TEXT), rules(text), *ALL_CALLS)
            self.assertEqual(told[1][0], -6)
            self.assertEqual(told[2:], before)

    def test_faulty_texts_have_every_kind(self):
        self.assertEqual({judge(text)[1] for text in FAULTY}, {1, 2, 3, 4, 5, 6})

    def test_refused_cells_change_nothing(self):
        calls = [call for kept in ALL_CALLS for call in (cells(5), kept, cells(GREATEST))]
        told = ask(rules(TEXT), *calls)[1:]
        self.assertEqual(told[1::3], ask(rules(TEXT), *ALL_CALLS)[1:])
        self.assertEqual(told[0::3] + told[2::3], [[-1]] * 2 * len(ALL_CALLS))

    def test_a_second_right_text(self):
        told = ask(rules(TEXT), *ALL_CALLS, rules(OTHER), *ALL_CALLS)
        count = len(ALL_CALLS)
        self.assertEqual(told[1:1 + count], ask(rules(TEXT), *ALL_CALLS)[1:])
        self.assertEqual(told[1 + count:], ask(rules(OTHER), *ALL_CALLS))
        self.assertEqual(told[2 + count], listed(codes("Other")))

    def test_asking_changes_nothing(self):
        told = ask(rules(TEXT), *ALL_CALLS, *reversed(ALL_CALLS), *ALL_CALLS)[1:]
        count = len(ALL_CALLS)
        self.assertEqual(told[:count], told[2 * count:])
        self.assertEqual(told[:count], told[count:2 * count][::-1])

    def test_right_behind_refused(self):
        told = ask(*[rules(text) for text in FAULTY], NAME, rules(TEXT), NAME)
        self.assertEqual(told[len(FAULTY):], [[-3], [0], listed(codes("Brandub"))])


class Times(unittest.TestCase):
    def test_what_is_handed_in_stays(self):
        calls = joined(rules(TEXT), *ALL_CALLS, rules(""), rules(OTHER), *ALL_CALLS)
        same = copy.deepcopy(calls)
        answers(calls)
        self.assertEqual(calls, same)

    def test_twice(self):
        calls = joined(NAME, rules(TEXT), *ALL_CALLS, rules(TEXT[:9]), *ALL_CALLS)
        self.assertEqual(answers(calls), answers(calls))

    def test_nothing_is_kept(self):
        answers(joined(rules(TEXT), NAME))
        self.assertEqual(answers(NAME), [1, -3])
        self.assertEqual(answers(joined(FACTS, cells(0), TURNS)), [1, -3, 1, -3, 1, -3])

    def test_an_answer_is_the_askers_own(self):
        calls = joined(rules(TEXT), *ALL_CALLS, rules(""))
        once = answers(calls)
        told = list(once)
        once.clear()
        self.assertEqual(answers(calls), told)


class Many(unittest.TestCase):
    def test_300_calls_and_30000_numbers(self):
        calls = []
        plan = []
        while len(plan) < 300 and len(calls) + len(TEXT) + 2 + 300 - len(plan) <= 30000:
            calls.extend(rules(TEXT))
            plan.append([0])
        while len(plan) < 300:
            calls.extend(TURNS)
            plan.append([0, 8, 0, 1, 2, 3, 4, 5, 6, 7])
        self.assertGreater(len(calls), 29500)
        self.assertEqual(answers(calls), joined(*[[len(told), *told] for told in plan]))

    def test_300_short_calls(self):
        greatest = plain_text(13, 13)
        told = ask(rules(greatest), *[TURNS] * 299)
        self.assertEqual(told, [[0]] + [[0, 8, 0, 1, 2, 3, 4, 5, 6, 7]] * 299)
        self.assertEqual(ask(*[cells(3)] * 300), [[-3]] * 300)

    def test_one_text_of_29998_bytes(self):
        text = TEXT + "h" * (29998 - len(TEXT))
        calls = rules(text)
        self.assertEqual(len(calls), 30000)
        self.assertEqual(answers(calls), [3, -6, 1, len(TEXT)])

    def test_many_texts_by_turns(self):
        texts = [TEXT, OTHER, *FAULTY]
        kept, plan, calls = None, [], []
        for k in range(90):
            text = texts[k * 7 % len(texts)]
            told = judge(text)
            kept = text if told == [0] else kept
            calls.extend([rules(text), NAME])
            plan.extend([told, ask(rules(kept), NAME)[1] if kept else [-3]])
        self.assertLessEqual(len(joined(*calls)), 30000)
        self.assertEqual(ask(*calls), plan)


if __name__ == "__main__":
    unittest.main()
