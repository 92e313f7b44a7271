"""make: a text of what is told of it, or -8 where there is none (A2)."""

import itertools
import random
import unittest

from asking import FACT_BOUNDS, FACTS, GREATEST, NAME, TEXT, TURNS, ask, ask_all, can_be_made, cells, codes, listed, \
    made_text, make, plain_text, random_text, rows_of, rules, text_of, told_rows

ROWS = ("name", "facts", "seat", "exits", "walls", "hunters", "men")
FACT_NAMES = ("wide", "high", "first", "slides", "armed", "four", "passed", "enmity", "exits_enmity", "goal", "thrice",
              "limit", "king")
KEPT = [NAME, FACTS, *[cells(k) for k in range(6)], TURNS, TEXT]

# 7 wide and 6 high, with all there is: a seat with the king on it, exits, walls, hunters, men; the goal is exits.
FULL = text_of(["X.....X", ".......", "...S...", "..#....", ".......", "X..#..X"],
               ["...h...", "....m..", "h..K..h", "...m...", ".......", "..h...."],
               name="Full", first="king", king="slides bare four", seat="barred hunters", exits="all", goal="exits",
               thrice="king", limit=500)
# 5 wide and 5 high, with nothing but the king at (1, 1) and a hunter at (3, 3); the goal is edge.
BARE = plain_text(5, 5, name="Bare")


def changed(text, **changes):
    """The rows told of a text, with other rows or with other numbers among the facts."""
    rows = dict(zip(ROWS, rows_of(text)))
    facts = dict(zip(FACT_NAMES, rows["facts"]))
    for what, value in changes.items():
        (facts if what in FACT_NAMES else rows)[what] = codes(value) if what == "name" else value
    if "facts" not in changes:
        rows["facts"] = list(facts.values())
    return list(rows.values())


class Judged(unittest.TestCase):
    def made(self, text, **changes):
        """Some rows of which there's a text, which tells them just so."""
        rows = changed(text, **changes)
        told = ask(make(*rows))[0]
        self.assertEqual(told, listed(codes(made_text(*rows))), changes)
        made = "".join(chr(byte) for byte in told[2:])
        self.assertEqual(told_rows(made), rows, changes)

    def none(self, text, **changes):
        rows = changed(text, **changes)
        self.assertFalse(can_be_made(*rows), changes)
        self.assertEqual(ask(make(*rows)), [[-8]], changes)


class ByHand(unittest.TestCase):
    def test_bare(self):
        rows = [[66, 97, 114, 101], [5, 5, 0, 1, 1, 0, 1, 0, 0, 0, 0, 200, 14], [], [], [], [42], []]
        self.assertEqual(ask(make(*rows)), [listed(codes(
            "tafl Bare 5 5\nground\n.....\n.....\n.....\n.....\n.....\nstart\n.....\n...h.\n.....\n.K...\n.....\n"
            "first hunters\nking slides armed two\nseat passed quiet\nexits quiet\ngoal edge\nthrice drawn\n"
            "limit 200\n"))])

    def test_oblong(self):
        rows = [[113], [7, 5, 1, 0, 0, 1, 0, 3, 2, 1, 1, 60000, 29], [29], [0, 58], [3, 13], [1, 57], [28, 30]]
        self.assertEqual(ask(make(*rows)), [listed(codes(
            "tafl q 7 5\nground\n......X\n.......\n...S...\n#......\nX..#...\n"
            "start\n.....h.\n.......\n..mKm..\n.......\n.h.....\n"
            "first king\nking steps bare four\nseat barred all\nexits men\ngoal exits\nthrice hunters\n"
            "limit 60000\n"))])

    def test_as_numbers(self):
        # The very list: name, facts, seat, exits, walls, hunters, men, each with its count.
        call = [6, 1, 65, 13, 5, 5, 0, 1, 1, 0, 1, 0, 0, 0, 0, 1, 14, 0, 0, 0, 1, 42, 0]
        self.assertEqual(make([65], call[4:17], [], [], [], [42], []), call)
        told = ask(call)[0]
        self.assertEqual(told[:9], [0, len(told) - 2, 116, 97, 102, 108, 32, 65, 32])
        self.assertEqual(ask([6, 0, 0, 0, 0, 0, 0, 0]), [[-8]])


class MadeAgain(Judged):
    def test_every_size_with_and_without_each(self):
        source = random.Random(21)
        for wide, high in itertools.product(range(5, 14), repeat=2):
            texts = [random_text(source, wide, high, *wanted) for wanted in itertools.product((True, False), repeat=4)]
            self.check(texts)

    def check(self, texts):
        rows = [told_rows(text) for text in texts]
        for text, row, told in zip(texts, rows, ask_all(make(*row) for row in rows), strict=True):
            # To the byte; and as the text is the same, it tells just what it was made of.
            self.assertEqual(told, listed(codes(text)), text)
            self.assertEqual(row, rows_of(text), text)

    def test_what_is_made_tells_what_it_was_made_of(self):
        source = random.Random(22)
        for _ in range(100):
            rows = rows_of(random_text(source, source.randrange(5, 14), source.randrange(5, 14)))
            told = ask(make(*rows))[0]
            # Handed back as it was answered: 0 is the number of the call rules too.
            behind = ask(told, NAME, FACTS, *[cells(k) for k in range(5)], TEXT)
            self.assertEqual(behind, [[0], *[listed(row) for row in rows], told])

    def test_each_number_of_the_facts(self):
        for index in range(2, 11):
            for number in FACT_BOUNDS[index]:
                self.made(FULL, **{FACT_NAMES[index]: number})
        for limit in (1, 9, 10, 99, 100, 9999, 10000, 59999, 60000):
            self.made(FULL, limit=limit)

    def test_every_place_of_the_king(self):
        for wide, high in ((5, 5), (6, 9), (13, 13)):
            for king in [13 * y + x for y in range(high) for x in range(wide)]:
                hunter = 14 if king != 14 else 28
                rows = [[75], [wide, high, 0, 0, 0, 0, 1, 0, 0, 0, 0, 1, king], [], [], [], [hunter], []]
                edge = king % 13 in (0, wide - 1) or king // 13 in (0, high - 1)
                told = ask(make(*rows))[0]
                self.assertEqual(told, [-8] if edge else listed(codes(made_text(*rows))), rows)

    def test_full_boards(self):
        every = [13 * y + x for y in range(13) for x in range(13)]
        others = [cell for cell in every if cell != 84]
        self.made(BARE, wide=13, high=13, king=84, hunters=others)
        self.made(BARE, wide=13, high=13, king=84, hunters=[0], men=others[1:])
        self.made(BARE, wide=13, high=13, king=84, walls=others[1:], hunters=[0])
        self.made(BARE, wide=13, high=13, king=84, exits=others[1:], hunters=[0], goal=1)


class Name(Judged):
    def test_lengths(self):
        self.none(BARE, name="")
        self.made(BARE, name="a")
        self.made(BARE, name="a" * 16)
        self.none(BARE, name="a" * 17)
        self.none(BARE, name="a" * 300)

    def test_signs(self):
        for byte in range(256):
            sign = chr(byte)
            fine = sign.isascii() and sign.isalnum()
            (self.made if fine else self.none)(BARE, name="a" + sign)
            (self.made if fine else self.none)(BARE, name="a" + sign + "b")
            (self.made if fine and not sign.isdigit() else self.none)(BARE, name=sign + "b")
            (self.made if fine and not sign.isdigit() else self.none)(BARE, name=sign)

    def test_16_signs_with_a_wrong_one(self):
        for at in range(16):
            for sign in " \n\xff.":
                self.none(BARE, name="a" * at + sign + "a" * (15 - at))

    def test_more_than_a_name(self):
        # What stands behind would read on as a text's head, or the whole as a text.
        board = "Bare 5 5\nground\n" + ".....\n" * 5
        for name in ("a 5 5", "a 5 5\n", "a 5", "a ", " a", "a\n", BARE[5:], BARE[5:-1], board):
            self.none(BARE, name=name)


class Facts(Judged):
    def test_how_many(self):
        facts = rows_of(BARE)[1]
        self.made(BARE, facts=facts)
        for short in range(13):
            self.none(BARE, facts=facts[:short])
            self.none(BARE, facts=facts[13 - short:])
        for more in ([0], [14], [GREATEST], [0] * 13, facts):
            self.none(BARE, facts=facts + more)
        self.none(BARE, facts=[5] + facts)

    def test_sizes(self):
        for what in ("wide", "high"):
            for size in (0, 1, 4, 14, 15, 65536 + 5, GREATEST):
                self.none(BARE, **{what: size}, king=14, hunters=[15])
            for size in (5, 6, 9, 10, 12, 13):
                self.made(BARE, **{what: size}, king=14, hunters=[15])

    def test_words(self):
        for index in range(2, 11):
            bound = FACT_BOUNDS[index].stop
            self.made(FULL, **{FACT_NAMES[index]: bound - 1})
            for number in (bound, bound + 1, 255, 65536, GREATEST):
                self.none(FULL, **{FACT_NAMES[index]: number})

    def test_limit(self):
        for limit in (0, 60001, 60010, 65536, 65537, 100000, 600000, GREATEST):
            self.none(BARE, limit=limit)
        for limit in (1, 60000):
            self.made(BARE, limit=limit)

    def test_the_kings_cell(self):
        # 5 wide and 5 high: beside it, above it, and the next numbers inside.
        exit_and_goal = {"exits": [4], "goal": 1}
        for king in (5, 12, 18, 57, 64, 65, 69, 168, 169, 256 + 14, GREATEST):
            self.none(BARE, king=king, **exit_and_goal)
        for king in (0, 3, 13, 17, 52, 56, 16):
            self.made(BARE, king=king, **exit_and_goal)

    def test_a_number_in_anothers_place(self):
        facts = rows_of(FULL)[1]
        for one, other in itertools.combinations(range(13), 2):
            mixed = list(facts)
            mixed[one], mixed[other] = facts[other], facts[one]
            rows = changed(FULL, facts=mixed)
            (self.made if can_be_made(*rows) else self.none)(FULL, facts=mixed)


class Lists(Judged):
    def test_rising(self):
        for what in ("exits", "walls", "hunters", "men"):
            self.made(BARE, **{"hunters": [42], what: [0, 1, 4]})
            for row in ([1, 0, 4], [0, 4, 1], [4, 1, 0]):
                self.none(BARE, **{"hunters": [42], what: row})

    def test_twice(self):
        for what in ("seat", "exits", "walls", "hunters", "men"):
            self.made(BARE, **{"hunters": [42], what: [2]})
            self.none(BARE, **{"hunters": [42], what: [2, 2]})
        for what in ("exits", "walls", "hunters", "men"):
            self.none(BARE, **{"hunters": [42], what: [0, 0, 4]})
            self.none(BARE, **{"hunters": [42], what: [0, 4, 4]})
            self.none(BARE, **{"hunters": [42], what: [0, 4, 0]})

    def test_beside_and_above_the_ground(self):
        for wide, high in ((5, 5), (7, 5), (5, 8), (12, 13), (13, 12), (13, 13)):
            last = 13 * (high - 1) + wide - 1
            outside = [13 * high, 13 * high + wide - 1, 169, 256, 65536, GREATEST]
            outside += [wide, 12, 13 + wide, last + 1] if wide < 13 else []
            for what in ("seat", "exits", "walls", "hunters", "men"):
                for cell in (0, wide - 1, 13 * (high - 1), last):
                    self.made(BARE, **{"wide": wide, "high": high, "hunters": [42], what: [cell]})
                for cell in outside:
                    self.none(BARE, **{"wide": wide, "high": high, "hunters": [42], what: [cell]})
                    if what != "seat" and cell > 2:
                        self.none(BARE, **{"wide": wide, "high": high, "hunters": [42], what: [2, cell]})

    def test_two_lists_of_the_ground(self):
        for one, other in itertools.combinations(("seat", "exits", "walls"), 2):
            self.none(BARE, **{one: [30], other: [30]})
            self.made(BARE, **{one: [30], other: [29]})
            self.none(BARE, **{one: [30], other: [29, 30]})

    def test_two_lists_of_the_start(self):
        self.none(BARE, hunters=[30], men=[30])
        self.none(BARE, hunters=[29, 30], men=[30, 31])
        self.made(BARE, hunters=[29, 30], men=[28, 41])

    def test_the_kings_cell_in_a_list_of_the_start(self):
        self.none(BARE, hunters=[14, 42])
        self.none(BARE, hunters=[14])
        self.none(BARE, men=[14])
        self.made(BARE, hunters=[15], men=[13])

    def test_two_seats(self):
        self.none(BARE, seat=[2, 4])
        self.none(BARE, seat=[0, 1])
        self.none(FULL, seat=[1, 42])
        self.made(BARE, seat=[2])
        self.made(BARE, seat=[4])

    def test_lists_that_changed_places(self):
        rows = rows_of(FULL)
        for one, other in itertools.combinations(range(2, 7), 2):
            mixed = list(rows)
            mixed[one], mixed[other] = rows[other], rows[one]
            changes = dict(zip(ROWS[2:], mixed[2:]))
            (self.made if can_be_made(*mixed) else self.none)(FULL, **changes)


class Pieces(Judged):
    def test_on_each_kind_of_cell(self):
        for what in ("hunters", "men"):
            for kind in ("seat", "exits", "walls"):
                self.none(BARE, **{"hunters": [42], what: [16], kind: [16]})
                self.made(BARE, **{"hunters": [42], what: [16], kind: [17]})
        for kind in ("exits", "walls"):
            self.none(BARE, king=28, **{kind: [28]})
            self.made(BARE, king=28, **{kind: [29]})
        self.made(BARE, king=28, seat=[28])

    def test_the_king_on_an_exit_with_the_goal_exits(self):
        self.none(BARE, king=0, exits=[0, 4], goal=1)
        self.made(BARE, king=1, exits=[0, 4], goal=1)

    def test_no_hunter(self):
        self.none(BARE, hunters=[])
        self.none(BARE, hunters=[], men=[42])
        self.made(BARE, hunters=[42], men=[])
        self.none(FULL, hunters=[])
        self.made(FULL, men=[])

    def test_no_seat(self):
        for passed in (0, 1):
            for enmity in range(4):
                judged = self.made if (passed, enmity) == (1, 0) else self.none
                judged(BARE, seat=[], passed=passed, enmity=enmity)
                self.made(BARE, seat=[2], passed=passed, enmity=enmity)


class Goal(Judged):
    def test_exits_without_an_exit(self):
        self.none(BARE, goal=1)
        self.made(BARE, goal=1, exits=[0])
        self.none(FULL, exits=[])
        self.made(FULL, exits=[], goal=0)

    def test_edge_with_the_king_on_each_edge(self):
        for wide, high in ((5, 5), (8, 6), (13, 13)):
            for x, y in itertools.product(range(wide), range(high)):
                king = 13 * y + x
                sides = {"wide": wide, "high": high, "king": king, "hunters": [29 if king != 29 else 28]}
                on_edge = x in (0, wide - 1) or y in (0, high - 1)
                (self.none if on_edge else self.made)(BARE, goal=0, **sides)
                exit_cell = 2 if king != 2 else 3
                self.made(BARE, goal=1, exits=[exit_cell], **sides)
                if on_edge:
                    self.none(BARE, goal=0, exits=[exit_cell], **sides)


class TheObjectsRules(unittest.TestCase):
    def test_they_do_not_matter_and_stay(self):
        rows = rows_of(FULL)
        refused = changed(FULL, limit=0)
        right = listed(codes(FULL))
        self.assertEqual(ask(make(*rows), *KEPT), [right] + [[-3]] * len(KEPT))
        self.assertEqual(ask(make(*refused), *KEPT), [[-8]] + [[-3]] * len(KEPT))
        for other in (BARE, FULL, plain_text(13, 6, ground=[(2, 4, "#")])):
            before = ask(rules(other), *KEPT)[1:]
            self.assertEqual(ask(rules(other), make(*rows), *KEPT), [[0], right, *before])
            self.assertEqual(ask(rules(other), make(*refused), *KEPT), [[0], [-8], *before])
            self.assertEqual(ask(rules(other), make(*refused), make(*rows), make(*refused), *KEPT),
                             [[0], [-8], right, [-8], *before])

    def test_the_next_call_stands_behind(self):
        # Refused at the first row or the last, a call takes all its rows.
        for rows in (changed(FULL, name=""), changed(FULL, facts=[]), changed(FULL, wide=GREATEST),
                     changed(FULL, men=[0, 1, 2, 3, 4, 5, 6, 7, 8, 9])):
            self.assertEqual(ask(make(*rows), NAME, make(*rows), make(*rows_of(BARE)), TEXT),
                             [[-8], [-3], [-8], listed(codes(BARE)), [-3]])


def shaken(source, rows):
    """Some rows with one or two of their numbers or lists otherwise."""
    rows = [list(row) for row in rows]
    for _ in range(source.randrange(1, 3)):
        row = rows[source.choice([0, 1, 1, 1, 2, 3, 4, 5, 6])]
        number = source.choice([0, 1, 2, 3, 4, 5, 13, 14, 28, source.randrange(170), source.randrange(256)])
        deed = source.randrange(5)
        if deed == 0:
            row.append(number)
        elif deed == 1:
            row.insert(source.randrange(len(row) + 1), number)
        elif row and deed == 2:
            row.pop(source.randrange(len(row)))
        elif row and deed == 3:
            row[source.randrange(len(row))] = number
        elif row is not rows[1] and row is not rows[0]:
            row[:] = sorted({*row, number})
        else:
            row[source.randrange(len(row))] += 1
    return rows


class Shaken(unittest.TestCase):
    def test_against_the_words(self):
        source = random.Random(23)
        asked = []
        for _ in range(4000):
            wide, high = source.choice([(5, 5), (5, 6), (7, 5), (source.randrange(5, 14), source.randrange(5, 14))])
            wanted = [source.random() < 0.6 for _ in range(4)]
            rows = shaken(source, rows_of(random_text(source, wide, high, *wanted)))
            rows[0] = [byte % 256 for byte in rows[0]]
            asked.append(rows)
        made = 0
        for rows, told in zip(asked, ask_all(make(*rows) for rows in asked), strict=True):
            text = made_text(*rows)
            self.assertEqual(told, [-8] if text is None else listed(codes(text)), rows)
            made += text is not None
        self.assertGreater(made, 800)
        self.assertLess(made, 3200)


if __name__ == "__main__":
    unittest.main()
