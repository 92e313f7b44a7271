"""The desk: calls on one object come as one list of numbers, and so do the answers go."""

from hallrules.refusals import NoRules, OutOfRange, Refusal
from hallrules.rules import rules_of
from hallrules.turning import fitting_turns


class UnknownCall(ValueError):
    """There is no call with this number."""


class Hall:
    """The object that is called; without rules, rules is None."""

    def __init__(self):
        self.rules = None

    def known_rules(self):
        if self.rules is None:
            raise NoRules()
        return self.rules


class Queue:
    """The calls' numbers, taken from the front without changing the list."""

    def __init__(self, calls):
        self.calls = calls
        self.taken = 0

    def has_more(self):
        return self.taken < len(self.calls)

    def take_number(self):
        number = self.calls[self.taken]
        self.taken += 1
        return number

    def take_row(self):
        length = self.take_number()
        row = self.calls[self.taken:self.taken + length]
        self.taken += length
        return row


def counted(row):
    return [0, len(row)] + row


def answer_rules(hall, queue):
    hall.rules = rules_of(queue.take_row())
    return [0]


def answer_name(hall, queue):
    return counted(hall.known_rules().name)


def answer_facts(hall, queue):
    return counted(hall.known_rules().facts)


def answer_cells(hall, queue):
    # k is taken ahead of every refusal: the next call stands behind it.
    k = queue.take_number()
    cells = hall.known_rules().cells
    if k >= len(cells):
        raise OutOfRange()
    return counted(cells[k])


def answer_turns(hall, queue):
    known = hall.known_rules()
    return counted(fitting_turns(known.facts[0], known.facts[1], known.ground))


# Each call's number is its index.
CALLS = (answer_rules, answer_name, answer_facts, answer_cells, answer_turns)


def answer(hall, queue):
    number = queue.take_number()
    if number >= len(CALLS):
        raise UnknownCall(f"no call has the number {number}")
    try:
        return CALLS[number](hall, queue)
    except Refusal as refusal:
        return refusal.told


def answers(calls):
    """The answers of the calls on a new object, each with how many numbers it has before it."""
    hall = Hall()
    queue = Queue(calls)
    told = []
    while queue.has_more():
        numbers = answer(hall, queue)
        told.append(len(numbers))
        told.extend(numbers)
    return told
