"""What the tests share: texts, calls, and a second judge of texts that goes by the document's words."""

import itertools
import re
import string

from hallrules.desk import answers

GREATEST = 4294967295

GROUND_5 = ["X...X", ".....", "..S..", ".....", "X...X"]
START_5 = ["..h..", "..m..", "hmK.h", ".....", "..h.."]


def text_of(ground=GROUND_5, start=START_5, name="Brandub", wide=None, high=None, first="hunters",
            king="slides armed two", seat="barred all", exits="men", goal="exits", thrice="drawn", limit="200"):
    """A text by its parts, whether or not it is right."""
    wide = len(ground[0]) if wide is None else wide
    high = len(ground) if high is None else high
    lines = [f"tafl {name} {wide} {high}", "ground", *ground, "start", *start, f"first {first}", f"king {king}",
             f"seat {seat}", f"exits {exits}", f"goal {goal}", f"thrice {thrice}", f"limit {limit}"]
    return "".join(line + "\n" for line in lines)


def plain(wide, high, changes=()):
    """Rows of '.', with a sign put at each (x, y, sign), y from below."""
    rows = [["."] * wide for _ in range(high)]
    for x, y, sign in changes:
        rows[high - 1 - y][x] = sign
    return ["".join(row) for row in rows]


def plain_text(across, up, ground=(), start=((1, 1, "K"), (3, 3, "h")), **parts):
    """A text without seat and exits, right as it stands; changes as in plain."""
    parts = {"seat": "passed quiet", "exits": "quiet", "goal": "edge", **parts}
    return text_of(plain(across, up, ground), plain(across, up, start), **parts)


def ground_place(text, x, y):
    return board_place(text, "ground\n", x, y)


def start_place(text, x, y):
    return board_place(text, "start\n", x, y)


def board_place(text, head, x, y):
    wide, high = [int(size) for size in text.split("\n")[0].split(" ")[2:]]
    return text.index("\n" + head) + 1 + len(head) + (high - 1 - y) * (wide + 1) + x


def codes(text):
    return list(text.encode("latin-1"))


def rules(text):
    return [0, len(text), *codes(text)]


def cells(k):
    return [3, k]


NAME, FACTS, TURNS = [1], [2], [4]


def ask(*calls):
    """What each of the calls answers, as a list of numbers."""
    numbers = answers([number for call in calls for number in call])
    told = []
    at = 0
    while at < len(numbers):
        told.append(numbers[at + 1:at + 1 + numbers[at]])
        at += 1 + numbers[at]
    assert at == len(numbers), "the counts don't come out even"
    assert len(told) == len(calls), "not one answer for each call"
    return told


def judge(text):
    return ask(rules(text))[0]


def judge_all(texts):
    """Answers of many texts, each list of calls kept within the document's bounds."""
    told = []
    batch, size = [], 0
    for text in texts:
        if len(batch) == 300 or size + len(text) + 2 > 30000:
            told.extend(ask(*batch))
            batch, size = [], 0
        batch.append(rules(text))
        size += len(text) + 2
    return told + (ask(*batch) if batch else [])


def listed(row):
    return [0, len(row), *row]


# The second judge. It asks of each beginning of a text whether some text goes on from it,
# line by line, with every line that the grammar has written out or told by a pattern.

NAME_FORM = "[A-Za-z][A-Za-z0-9]{0,15}"
SIZE_FORM = "(?:[5-9]|10|11|12|13)"
HEAD_FORM = re.compile(f"tafl {NAME_FORM} ({SIZE_FORM}) ({SIZE_FORM})")
HEAD_BEGUN = re.compile(f"tafl {NAME_FORM}(?: (?:1|{SIZE_FORM}|{SIZE_FORM} (?:1|{SIZE_FORM})?)?)?")
LIMITS = {f"limit {number}" for number in range(1, 60001)}
ENMITY = ["quiet", "hunters", "men", "all"]


def all_lines(*choices):
    return [" ".join(words) for words in itertools.product(*choices)]


WORD_LINES = [
    all_lines(["first"], ["hunters", "king"]),
    all_lines(["king"], ["slides", "steps"], ["armed", "bare"], ["two", "four"]),
    all_lines(["seat"], ["passed", "barred"], ENMITY),
    all_lines(["exits"], ENMITY),
    all_lines(["goal"], ["edge", "exits"]),
    all_lines(["thrice"], ["drawn", "hunters", "king"]),
]


def line_begun(number, line, wide, high):
    """Whether the line of that number (the head being line 0) may begin with these signs."""
    if number == 0:
        return "tafl ".startswith(line) or bool(HEAD_BEGUN.fullmatch(line))
    if number in (1, 2 + high):
        return ("ground" if number == 1 else "start").startswith(line)
    if number < 3 + 2 * high:
        signs = ".SX#" if number < 2 + high else ".hmK"
        return len(line) <= wide and set(line) <= set(signs)
    if number < 9 + 2 * high:
        return any(whole.startswith(line) for whole in WORD_LINES[number - 3 - 2 * high])
    if number == 9 + 2 * high:
        return "limit ".startswith(line) or line in LIMITS
    return line == ""


def line_whole(number, line, wide, high):
    if number == 0:
        return bool(HEAD_FORM.fullmatch(line))
    if number in (1, 2 + high):
        return line == ("ground" if number == 1 else "start")
    if number < 3 + 2 * high:
        return len(line) == wide and line_begun(number, line, wide, high)
    if number < 9 + 2 * high:
        return line in WORD_LINES[number - 3 - 2 * high]
    return number == 9 + 2 * high and line in LIMITS


def sides(text):
    head = HEAD_FORM.fullmatch(text.split("\n")[0])
    return (int(head[1]), int(head[2])) if head else (0, 0)


def goes_on(text):
    wide, high = sides(text)
    lines = text.split("\n")
    last = len(lines) - 1
    return (all(line_whole(k, lines[k], wide, high) for k in range(last))
            and line_begun(last, lines[last], wide, high))


def grammar_place(text):
    """The place of the fault of kind 1, or None."""
    low, high = 0, len(text)
    while low < high:
        middle = (low + high + 1) // 2
        if goes_on(text[:middle]):
            low = middle
        else:
            high = middle - 1
    whole = low == len(text) and text.count("\n") == 10 + 2 * sides(text)[1] > 10
    return None if whole else low


def later_faults(text):
    wide, high = sides(text)
    at = {(x, y): (text[ground_place(text, x, y)], text[start_place(text, x, y)])
          for y in range(high) for x in range(wide)}
    seats = sorted(ground_place(text, *spot) for spot in at if at[spot][0] == "S")
    kings = sorted((start_place(text, *spot), spot) for spot in at if at[spot][1] == "K")
    faults = [(place, 2) for place in seats[1:2]] + [(place, 4) for place, spot in kings[1:2]]
    for spot, (under, piece) in at.items():
        if (piece in "hmK" and under in "#X") or (piece in "hm" and under == "S"):
            faults.append((start_place(text, *spot), 3))
    goal = text.index("\ngoal ") + 6
    if text[goal:].startswith("exits\n") and not any(under == "X" for under, piece in at.values()):
        faults.append((goal, 5))
    if text[goal:].startswith("edge\n") and kings:
        x, y = kings[0][1]
        if x in (0, wide - 1) or y in (0, high - 1):
            faults.append((goal, 5))
    pieces = {piece for under, piece in at.values()}
    if not {"K", "h"} <= pieces or (not seats and "\nseat passed quiet\n" not in text):
        faults.append((len(text), 6))
    return faults


def expected(text):
    """What rules is to answer to a text, by the second judge."""
    place = grammar_place(text)
    if place is not None:
        return [-6, 1, place]
    faults = later_faults(text)
    if faults:
        place, kind = min(faults)
        return [-6, kind, place]
    return [0]


ALL_SIGNS = string.ascii_letters + string.digits + " \n\r\t.#_-\x00\x7f\x80\xff"
