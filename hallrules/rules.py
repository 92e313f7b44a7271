"""Rules: what a right text says."""

from hallrules.judging import cells_of, check_sheet
from hallrules.reading import read_sheet

# The signs of the five lists of cells, in the lists' order.
LISTED_GROUND = "SX#"
LISTED_START = "hm"


class Rules:
    """What a right text says.

    text and name are lists of bytes, facts the thirteen numbers, cells the five lists of cells'
    numbers, ground a dict that has each cell's sign by its number.
    """

    def __init__(self, text, name, facts, cells, ground):
        self.text = text
        self.name = name
        self.facts = facts
        self.cells = cells
        self.ground = ground


def facts_of(sheet):
    facts = [sheet.wide, sheet.high]
    facts.extend([number for place, number in sheet.marks])
    facts.append(sheet.limit)
    facts.extend(cells_of(sheet.start, "K"))
    return facts


def lists_of(sheet):
    lists = [cells_of(sheet.ground, sign) for sign in LISTED_GROUND]
    lists.extend([cells_of(sheet.start, sign) for sign in LISTED_START])
    return lists


def rules_of(codes):
    """The rules that a text says, given as its bytes; raises its first fault if it isn't right."""
    sheet = read_sheet(codes)
    check_sheet(sheet)
    ground = dict([(cell, sign) for place, cell, sign in sheet.ground])
    return Rules(codes, sheet.name, facts_of(sheet), lists_of(sheet), ground)
