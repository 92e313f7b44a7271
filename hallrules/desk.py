"""The desk: calls on one object come as one list of numbers, and so do the answers go."""

from hallrules.reading import is_size
from hallrules.refusals import NoRules, OutOfRange, Refusal
from hallrules.rules import LISTED_GROUND, LISTED_START, rules_of
from hallrules.turning import TURNS, combined, fitting_turns, has_cell, turned, undoing
from hallrules.writing import made_rules


class UnknownCall(ValueError):
    """There is no call with this number."""


class Hall:
    """The object that is called; without rules, rules is None."""

    def __init__(self):
        self.rules = None

    def known_rules(self):
        if self.rules is None:
            raise NoRules()
        return self.rules


class Queue:
    """The calls' numbers, taken from the front without changing the list.

    A call takes all its numbers ahead of any refusal, as the next call stands behind them.
    """

    def __init__(self, calls):
        self.calls = calls
        self.taken = 0

    def has_more(self):
        return self.taken < len(self.calls)

    def take_number(self):
        number = self.calls[self.taken]
        self.taken += 1
        return number

    def take_row(self):
        length = self.take_number()
        row = self.calls[self.taken:self.taken + length]
        self.taken += length
        return row


def counted(row):
    return [0, len(row)] + row


def answer_rules(hall, queue):
    hall.rules = rules_of(queue.take_row())
    return [0]


def answer_name(hall, queue):
    return counted(hall.known_rules().name)


def answer_facts(hall, queue):
    return counted(hall.known_rules().facts)


def answer_cells(hall, queue):
    k = queue.take_number()
    cells = hall.known_rules().cells
    if k >= len(cells):
        raise OutOfRange()
    return counted(cells[k])


def answer_turns(hall, queue):
    known = hall.known_rules()
    return counted(fitting_turns(known.facts[0], known.facts[1], known.ground))


def answer_text(hall, queue):
    return counted(hall.known_rules().text)


def answer_make(hall, queue):
    name = queue.take_row()
    facts = queue.take_row()
    cells = [queue.take_row() for sign in LISTED_GROUND + LISTED_START]
    return counted(made_rules(name, facts, cells).text)


def answer_turn(hall, queue):
    wide = queue.take_number()
    high = queue.take_number()
    turn = queue.take_number()
    cell = queue.take_number()
    if not is_size(wide) or not is_size(high) or turn >= TURNS or not has_cell(wide, high, cell):
        raise OutOfRange()
    return [turned(wide, high, turn, cell)]


def answer_two(hall, queue):
    turn = queue.take_number()
    later = queue.take_number()
    if turn >= TURNS or later >= TURNS:
        raise OutOfRange()
    return [combined(turn, later)]


def answer_back(hall, queue):
    turn = queue.take_number()
    if turn >= TURNS:
        raise OutOfRange()
    return [undoing(turn)]


# Each call's number is its index.
CALLS = (answer_rules, answer_name, answer_facts, answer_cells, answer_turns,
         answer_text, answer_make, answer_turn, answer_two, answer_back)


def answer(hall, queue):
    number = queue.take_number()
    if number >= len(CALLS):
        raise UnknownCall(f"no call has the number {number}")
    try:
        return CALLS[number](hall, queue)
    except Refusal as refusal:
        return refusal.told


def answers(calls):
    """The answers of the calls on a new object, each with how many numbers it has before it."""
    hall = Hall()
    queue = Queue(calls)
    told = []
    while queue.has_more():
        numbers = answer(hall, queue)
        told.append(len(numbers))
        told.extend(numbers)
    return told
