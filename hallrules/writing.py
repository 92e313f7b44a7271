"""The writing of rules' texts from what name, facts and cells would tell of them."""

from hallrules.reading import LINES, ROW, is_size
from hallrules.refusals import NoText, TextFault
from hallrules.rules import LISTED_GROUND, LISTED_START, rules_of

# Where these stand among the facts; the numbers of LINES' words stand between.
WIDE = 0
HIGH = 1
FIRST_WORD = 2
LIMIT = 11
KING = 12
FACTS = 13


def all_choices():
    every = []
    for head, choices in LINES:
        every.extend(choices)
    return every


def can_be_written(facts):
    """Whether there is a row for each size and a word for each number; the rest is left to the reader."""
    if len(facts) != FACTS or not is_size(facts[WIDE]) or not is_size(facts[HIGH]):
        return False
    return all([number < len(words) for number, words in zip(facts[FIRST_WORD:LIMIT], all_choices())])


def signs_of(lists, signs):
    board = {}
    for cells, sign in zip(lists, signs):
        for cell in cells:
            board[cell] = sign
    return board


def board_text(facts, board):
    text = ""
    for y in reversed(range(facts[HIGH])):
        for x in range(facts[WIDE]):
            text += board.get(ROW * y + x, ".")
        text += "\n"
    return text


def lines_text(facts):
    text = ""
    at = FIRST_WORD
    for head, choices in LINES:
        text += head
        for words in choices:
            text += " " + words[facts[at]]
            at += 1
        text += "\n"
    return text


def bytes_of(text):
    return [ord(sign) for sign in text]


def written(name, facts, cells):
    """The bytes of the one text that may tell this, whether or not it does."""
    wide = facts[WIDE]
    high = facts[HIGH]
    limit = facts[LIMIT]
    ground = signs_of(cells[:len(LISTED_GROUND)], LISTED_GROUND)
    start = signs_of(cells[len(LISTED_GROUND):], LISTED_START)
    start[facts[KING]] = "K"
    text = f" {wide} {high}\nground\n" + board_text(facts, ground) + "start\n" + board_text(facts, start)
    text += lines_text(facts) + f"limit {limit}\n"
    return bytes_of("tafl ") + name + bytes_of(text)


def made_rules(name, facts, cells):
    """The rules of which just this is told; raises NoText if there are none."""
    if not can_be_written(facts):
        raise NoText()
    try:
        made = rules_of(written(name, facts, cells))
    except TextFault:
        raise NoText() from None
    # The writing loses cells beside the ground, in two lists, twice in one or out of order.
    if made.name != name or made.facts != facts or made.cells != cells:
        raise NoText()
    return made
