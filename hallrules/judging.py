"""The faults that a text of the grammar may still have: the kinds 2 to 6.

Each of the finders lists the faults of its kind as (place, kind), so that the least is the first.
"""

from hallrules.reading import ROW
from hallrules.refusals import TextFault

# Where these stand among a sheet's marks.
PASSED = 4
SEAT = 5
GOAL = 7

GOAL_EDGE = 0
SEAT_PASSED = 1
SEAT_QUIET = 0


def places_of(board, sign):
    return [place for place, cell, found in board if found == sign]


def cells_of(board, sign):
    return sorted([cell for place, cell, found in board if found == sign])


def more_than_one(board, sign, kind):
    return [(place, kind) for place in places_of(board, sign)[1:]]


def stands_wrong(piece, kind):
    if piece == ".":
        return False
    if kind == "S":
        return piece != "K"
    return kind != "."


def wrong_pieces(sheet):
    found = []
    for under, above in zip(sheet.ground, sheet.start):
        if stands_wrong(above[2], under[2]):
            found.append((above[0], 3))
    return found


def on_edge(sheet, cell):
    x = cell % ROW
    y = cell // ROW
    return x == 0 or y == 0 or x == sheet.wide - 1 or y == sheet.high - 1


def first_king_on_edge(sheet):
    for place, cell, piece in sheet.start:
        if piece == "K":
            return on_edge(sheet, cell)
    return False


def wrong_goal(sheet):
    place = sheet.marks[GOAL][0]
    if sheet.marks[GOAL][1] == GOAL_EDGE:
        wrong = first_king_on_edge(sheet)
    else:
        wrong = not places_of(sheet.ground, "X")
    return [(place, 5)] if wrong else []


def seat_is_asked_for(sheet):
    return sheet.marks[PASSED][1] != SEAT_PASSED or sheet.marks[SEAT][1] != SEAT_QUIET


def lacks(sheet):
    if not places_of(sheet.start, "K") or not places_of(sheet.start, "h"):
        return [(sheet.length, 6)]
    if seat_is_asked_for(sheet) and not places_of(sheet.ground, "S"):
        return [(sheet.length, 6)]
    return []


def check_sheet(sheet):
    """Raises the sheet's first fault, if it has one."""
    found = more_than_one(sheet.ground, "S", 2)
    found.extend(wrong_pieces(sheet))
    found.extend(more_than_one(sheet.start, "K", 4))
    found.extend(wrong_goal(sheet))
    found.extend(lacks(sheet))
    if found:
        first = min(found)
        raise TextFault(first[1], first[0])
