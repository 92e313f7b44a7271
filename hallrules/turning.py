"""Turns of a ground: 0 to 3 are quarters to the right, 4 to 7 the same behind a mirroring."""

from hallrules.reading import ROW

TURNS = 8
QUARTERS = 4


def turned(wide, high, turn, cell):
    """The number of the cell to which a cell of a ground comes by a turn."""
    x = cell % ROW
    y = cell // ROW
    spot = (wide - 1 - x, y) if turn >= QUARTERS else (x, y)
    sides = (wide, high)
    for quarter in range(turn % QUARTERS):
        spot = (spot[1], sides[0] - 1 - spot[0])
        sides = (sides[1], sides[0])
    return ROW * spot[1] + spot[0]


def combined(turn, later):
    """The turn that does at once what a turn and a later one behind it do."""
    # A quarter to the right, then mirrored, is the same as mirrored, then a quarter to the left.
    quarters = later - turn if later >= QUARTERS else later + turn
    mirrored = (turn >= QUARTERS) != (later >= QUARTERS)
    return quarters % QUARTERS + (QUARTERS if mirrored else 0)


def undoing(turn):
    """The turn that, behind this one, leaves all as it was."""
    # With a mirroring in it a turn undoes itself.
    return turn if turn >= QUARTERS else -turn % QUARTERS


def has_cell(wide, high, cell):
    return cell % ROW < wide and cell // ROW < high


def fits(wide, high, ground, turn):
    # Without this, a cell of an oblong ground may come to one that the ground doesn't have.
    if wide != high and turn % 2 == 1:
        return False
    for cell in ground:
        if ground[turned(wide, high, turn, cell)] != ground[cell]:
            return False
    return True


def fitting_turns(wide, high, ground):
    """The turns, rising, that fit a ground, which has each cell's sign by its number."""
    return [turn for turn in range(TURNS) if fits(wide, high, ground, turn)]
