"""Rules: what a right text says."""

from hallrules.judging import cells_of, check_sheet
from hallrules.reading import read_sheet


class Rules:
    """What a right text says.

    name is a list of bytes, facts the thirteen numbers, cells the five lists of cells' numbers,
    ground a dict that has each cell's sign by its number.
    """

    def __init__(self, name, facts, cells, ground):
        self.name = name
        self.facts = facts
        self.cells = cells
        self.ground = ground


def facts_of(sheet):
    facts = [sheet.wide, sheet.high]
    facts.extend([number for place, number in sheet.marks])
    facts.append(sheet.limit)
    facts.extend(cells_of(sheet.start, "K"))
    return facts


def lists_of(sheet):
    lists = [cells_of(sheet.ground, sign) for sign in "SX#"]
    lists.extend([cells_of(sheet.start, sign) for sign in "hm"])
    return lists


def rules_of(codes):
    """The rules that a text says, given as its bytes; raises its first fault if it isn't right."""
    sheet = read_sheet(codes)
    check_sheet(sheet)
    ground = dict([(cell, sign) for place, cell, sign in sheet.ground])
    return Rules(sheet.name, facts_of(sheet), lists_of(sheet), ground)
