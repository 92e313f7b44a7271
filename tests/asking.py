"""What the tests share: texts, calls, and a second judge of texts that goes by the document's words."""

import itertools
import re
import string

from hallrules.desk import answers

GREATEST = 4294967295

GROUND_5 = ["X...X", ".....", "..S..", ".....", "X...X"]
START_5 = ["..h..", "..m..", "hmK.h", ".....", "..h.."]


def text_of(ground=GROUND_5, start=START_5, name="Brandub", wide=None, high=None, first="hunters",
            king="slides armed two", seat="barred all", exits="men", goal="exits", thrice="drawn", limit="200"):
    """A text by its parts, whether or not it is right."""
    wide = len(ground[0]) if wide is None else wide
    high = len(ground) if high is None else high
    lines = [f"tafl {name} {wide} {high}", "ground", *ground, "start", *start, f"first {first}", f"king {king}",
             f"seat {seat}", f"exits {exits}", f"goal {goal}", f"thrice {thrice}", f"limit {limit}"]
    return "".join(line + "\n" for line in lines)


def plain(wide, high, changes=()):
    """Rows of '.', with a sign put at each (x, y, sign), y from below."""
    rows = [["."] * wide for _ in range(high)]
    for x, y, sign in changes:
        rows[high - 1 - y][x] = sign
    return ["".join(row) for row in rows]


def plain_text(across, up, ground=(), start=((1, 1, "K"), (3, 3, "h")), **parts):
    """A text without seat and exits, right as it stands; changes as in plain."""
    parts = {"seat": "passed quiet", "exits": "quiet", "goal": "edge", **parts}
    return text_of(plain(across, up, ground), plain(across, up, start), **parts)


def ground_place(text, x, y):
    return board_place(text, "ground\n", x, y)


def start_place(text, x, y):
    return board_place(text, "start\n", x, y)


def board_place(text, head, x, y):
    wide, high = [int(size) for size in text.split("\n")[0].split(" ")[2:]]
    return text.index("\n" + head) + 1 + len(head) + (high - 1 - y) * (wide + 1) + x


def codes(text):
    return list(text.encode("latin-1"))


def rules(text):
    return [0, len(text), *codes(text)]


def cells(k):
    return [3, k]


NAME, FACTS, TURNS, TEXT = [1], [2], [4], [5]


def make(*rows):
    """The call of a name, facts and five lists of cells."""
    return [6] + [number for row in rows for number in [len(row), *row]]


def turn(wide, high, t, cell):
    return [7, wide, high, t, cell]


def two(t, u):
    return [8, t, u]


def back(t):
    return [9, t]


def ask(*calls):
    """What each of the calls answers, as a list of numbers."""
    numbers = answers([number for call in calls for number in call])
    told = []
    at = 0
    while at < len(numbers):
        told.append(numbers[at + 1:at + 1 + numbers[at]])
        at += 1 + numbers[at]
    assert at == len(numbers), "the counts don't come out even"
    assert len(told) == len(calls), "not one answer for each call"
    return told


def judge(text):
    return ask(rules(text))[0]


def ask_all(calls):
    """Answers of many calls, each list of calls kept within the document's bounds and on an object of its own."""
    told = []
    batch, size = [], 0
    for call in calls:
        if len(batch) == 300 or size + len(call) > 30000:
            told.extend(ask(*batch))
            batch, size = [], 0
        batch.append(call)
        size += len(call)
    return told + (ask(*batch) if batch else [])


def judge_all(texts):
    return ask_all(rules(text) for text in texts)


def told_rows(text):
    """What name, facts and cells 0 to 4 tell of a right text: the rows of which make is to make it again."""
    told = ask(rules(text), NAME, FACTS, *[cells(k) for k in range(5)])
    assert told[0] == [0], told[0]
    assert all(row[:2] == [0, len(row) - 2] for row in told[1:]), told
    return [row[2:] for row in told[1:]]


def listed(row):
    return [0, len(row), *row]


# The second judge. It asks of each beginning of a text whether some text goes on from it,
# line by line, with every line that the grammar has written out or told by a pattern.

NAME_FORM = "[A-Za-z][A-Za-z0-9]{0,15}"
SIZE_FORM = "(?:[5-9]|10|11|12|13)"
HEAD_FORM = re.compile(f"tafl {NAME_FORM} ({SIZE_FORM}) ({SIZE_FORM})")
HEAD_BEGUN = re.compile(f"tafl {NAME_FORM}(?: (?:1|{SIZE_FORM}|{SIZE_FORM} (?:1|{SIZE_FORM})?)?)?")
LIMITS = {f"limit {number}" for number in range(1, 60001)}
ENMITY = ["quiet", "hunters", "men", "all"]


def all_lines(*choices):
    return [" ".join(words) for words in itertools.product(*choices)]


WORD_LINES = [
    all_lines(["first"], ["hunters", "king"]),
    all_lines(["king"], ["slides", "steps"], ["armed", "bare"], ["two", "four"]),
    all_lines(["seat"], ["passed", "barred"], ENMITY),
    all_lines(["exits"], ENMITY),
    all_lines(["goal"], ["edge", "exits"]),
    all_lines(["thrice"], ["drawn", "hunters", "king"]),
]


def line_begun(number, line, wide, high):
    """Whether the line of that number (the head being line 0) may begin with these signs."""
    if number == 0:
        return "tafl ".startswith(line) or bool(HEAD_BEGUN.fullmatch(line))
    if number in (1, 2 + high):
        return ("ground" if number == 1 else "start").startswith(line)
    if number < 3 + 2 * high:
        signs = ".SX#" if number < 2 + high else ".hmK"
        return len(line) <= wide and set(line) <= set(signs)
    if number < 9 + 2 * high:
        return any(whole.startswith(line) for whole in WORD_LINES[number - 3 - 2 * high])
    if number == 9 + 2 * high:
        return "limit ".startswith(line) or line in LIMITS
    return line == ""


def line_whole(number, line, wide, high):
    if number == 0:
        return bool(HEAD_FORM.fullmatch(line))
    if number in (1, 2 + high):
        return line == ("ground" if number == 1 else "start")
    if number < 3 + 2 * high:
        return len(line) == wide and line_begun(number, line, wide, high)
    if number < 9 + 2 * high:
        return line in WORD_LINES[number - 3 - 2 * high]
    return number == 9 + 2 * high and line in LIMITS


def sides(text):
    head = HEAD_FORM.fullmatch(text.split("\n")[0])
    return (int(head[1]), int(head[2])) if head else (0, 0)


def goes_on(text):
    wide, high = sides(text)
    lines = text.split("\n")
    last = len(lines) - 1
    return (all(line_whole(k, lines[k], wide, high) for k in range(last))
            and line_begun(last, lines[last], wide, high))


def grammar_place(text):
    """The place of the fault of kind 1, or None."""
    low, high = 0, len(text)
    while low < high:
        middle = (low + high + 1) // 2
        if goes_on(text[:middle]):
            low = middle
        else:
            high = middle - 1
    whole = low == len(text) and text.count("\n") == 10 + 2 * sides(text)[1] > 10
    return None if whole else low


def later_faults(text):
    wide, high = sides(text)
    at = {(x, y): (text[ground_place(text, x, y)], text[start_place(text, x, y)])
          for y in range(high) for x in range(wide)}
    seats = sorted(ground_place(text, *spot) for spot in at if at[spot][0] == "S")
    kings = sorted((start_place(text, *spot), spot) for spot in at if at[spot][1] == "K")
    faults = [(place, 2) for place in seats[1:2]] + [(place, 4) for place, spot in kings[1:2]]
    for spot, (under, piece) in at.items():
        if (piece in "hmK" and under in "#X") or (piece in "hm" and under == "S"):
            faults.append((start_place(text, *spot), 3))
    goal = text.index("\ngoal ") + 6
    if text[goal:].startswith("exits\n") and not any(under == "X" for under, piece in at.values()):
        faults.append((goal, 5))
    if text[goal:].startswith("edge\n") and kings:
        x, y = kings[0][1]
        if x in (0, wide - 1) or y in (0, high - 1):
            faults.append((goal, 5))
    pieces = {piece for under, piece in at.values()}
    if not {"K", "h"} <= pieces or (not seats and "\nseat passed quiet\n" not in text):
        faults.append((len(text), 6))
    return faults


def expected(text):
    """What rules is to answer to a text, by the second judge."""
    place = grammar_place(text)
    if place is not None:
        return [-6, 1, place]
    faults = later_faults(text)
    if faults:
        place, kind = min(faults)
        return [-6, kind, place]
    return [0]


# What a right text says, and of which rows there is one, by the document's words too.

FACT_WORDS = [["hunters", "king"], ["steps", "slides"], ["bare", "armed"], ["two", "four"], ["barred", "passed"],
              ENMITY, ENMITY, ["edge", "exits"], ["drawn", "hunters", "king"]]
FACT_BOUNDS = [range(5, 14), range(5, 14), *[range(len(words)) for words in FACT_WORDS], range(1, 60001), range(169)]


def rows_of(text):
    """Name, facts and the five lists of cells of a right text."""
    lines = text.split("\n")
    wide, high = sides(text)
    spots = [(x, y) for y in range(high) for x in range(wide)]
    lists = [[13 * y + x for x, y in spots if text[ground_place(text, x, y)] == sign] for sign in "SX#"]
    lists += [[13 * y + x for x, y in spots if text[start_place(text, x, y)] == sign] for sign in "hmK"]
    words = [word for line in lines[3 + 2 * high:9 + 2 * high] for word in line.split(" ")[1:]]
    facts = [wide, high, *[choice.index(word) for choice, word in zip(FACT_WORDS, words)],
             int(lines[9 + 2 * high].split(" ")[1]), lists[5][0]]
    return [codes(lines[0].split(" ")[1]), facts, *lists[:5]]


def can_be_made(name, facts, seat, exits, walls, hunters, men):
    if not re.fullmatch(NAME_FORM, bytes(name).decode("latin-1")) or len(facts) != 13:
        return False
    if any(number not in bound for number, bound in zip(facts, FACT_BOUNDS)):
        return False
    wide, high, king = facts[0], facts[1], facts[12]
    inner = {13 * y + x for y in range(high) for x in range(wide)}
    if any(row != sorted(set(row) & inner) for row in (seat, exits, walls, hunters, men, [king])):
        return False
    ground, pieces = seat + exits + walls, hunters + men + [king]
    if len(seat) > 1 or len(ground) > len(set(ground)) or len(pieces) > len(set(pieces)):
        return False
    if set(pieces) & {*walls, *exits} or {*hunters, *men} & set(seat) or not hunters:
        return False
    on_edge = king % 13 in (0, wide - 1) or king // 13 in (0, high - 1)
    if (facts[9] == 1 and not exits) or (facts[9] == 0 and on_edge):
        return False
    return bool(seat) or facts[6:8] == [1, 0]


def made_text(name, facts, *lists):
    """The text of which these rows are told, or None."""
    if not can_be_made(name, facts, *lists):
        return None
    boards = [plain(facts[0], facts[1], [(cell % 13, cell // 13, sign) for sign, row in part for cell in row])
              for part in (zip("SX#", lists[:3]), zip("hmK", [*lists[3:], facts[12:]]))]
    words = [choice[number] for choice, number in zip(FACT_WORDS, facts[2:])]
    return text_of(*boards, name=bytes(name).decode("latin-1"), first=words[0], king=" ".join(words[1:4]),
                   seat=" ".join(words[4:6]), exits=words[6], goal=words[7], thrice=words[8], limit=facts[11])


def random_text(source, wide, high, seat=True, exits=True, walls=True, men=True):
    """A right text, with a seat and so on where they are asked for."""
    spots = [(x, y) for y in range(high) for x in range(wide)]
    source.shuffle(spots)
    inner = [(x, y) for x, y in spots if 0 < x < wide - 1 and 0 < y < high - 1]
    goal = source.choice(["edge", "exits"]) if exits else "edge"
    king = source.choice(inner if goal == "edge" else spots)
    spots.remove(king)
    seats = [king if source.randrange(2) else spots.pop()] if seat else []
    ground = [(*spot, "S") for spot in seats]
    ground += [(*spots.pop(), "X") for _ in range(source.randrange(1, 5) if exits else 0)]
    ground += [(*spots.pop(), "#") for _ in range(source.randrange(1, 5) if walls else 0)]
    start = [(*king, "K")] + [(*spots.pop(), "h") for _ in range(source.randrange(1, 7))]
    start += [(*spots.pop(), "m") for _ in range(source.randrange(1, 5) if men else 0)]
    name = source.choice(string.ascii_letters) + "".join(
        source.choices(string.ascii_letters + string.digits, k=source.randrange(16)))
    return text_of(plain(wide, high, ground), plain(wide, high, start), name=name, goal=goal,
                   seat=source.choice(WORD_LINES[2])[5:] if seat else "passed quiet",
                   first=source.choice(WORD_LINES[0])[6:], king=source.choice(WORD_LINES[1])[5:],
                   exits=source.choice(ENMITY), thrice=source.choice(WORD_LINES[5])[7:],
                   limit=source.choice([1, 9, 10, 200, 59999, 60000, source.randrange(1, 60001)]))


# The turns, written out.

# Where (x, y) comes to by each turn, w and h being the ground's own sides.
FORMULAS = [
    lambda w, h, x, y: (x, y),
    lambda w, h, x, y: (y, w - 1 - x),
    lambda w, h, x, y: (w - 1 - x, h - 1 - y),
    lambda w, h, x, y: (h - 1 - y, x),
    lambda w, h, x, y: (w - 1 - x, y),
    lambda w, h, x, y: (y, x),
    lambda w, h, x, y: (x, h - 1 - y),
    lambda w, h, x, y: (h - 1 - y, w - 1 - x),
]

# two t u stands in row t, column u.
TWO = [
    [0, 1, 2, 3, 4, 5, 6, 7],
    [1, 2, 3, 0, 7, 4, 5, 6],
    [2, 3, 0, 1, 6, 7, 4, 5],
    [3, 0, 1, 2, 5, 6, 7, 4],
    [4, 5, 6, 7, 0, 1, 2, 3],
    [5, 6, 7, 4, 3, 0, 1, 2],
    [6, 7, 4, 5, 2, 3, 0, 1],
    [7, 4, 5, 6, 1, 2, 3, 0],
]
BACK = [0, 3, 2, 1, 4, 5, 6, 7]


ALL_SIGNS = string.ascii_letters + string.digits + " \n\r\t.#_-\x00\x7f\x80\xff"
