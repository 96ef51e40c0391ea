"""Cells: all letters cut into sets by guards, each of the letters of the same marks."""

from sayarrows.errors import NoGuards
from sayarrows.sayings import is_whole, letter_key
from sayarrows.shapes import EMPTY, EVERY, guard_shape, holds, is_guard, least_in, meeting, outside

MOST_GUARDS = 8


def split(pieces, shape):
    """The pieces (marks, shape) that are left where each one is cut by one set more."""
    others = outside(shape)
    found = []
    for marks, piece in pieces:
        for sign, side in (("0", others), ("1", shape)):
            part = meeting(piece, side)
            if part != EMPTY:
                found.append((marks + sign, part))
    return found


def cut(shapes):
    """The pieces that all letters are cut into by sets, however many, and how many times is asked for it."""
    pieces = [("", EVERY)]
    asks = 0
    for shape in shapes:
        asks += 2 * len(pieces)
        pieces = split(pieces, shape)
    return pieces, asks


def ask_guards(thing):
    """Refuse what is no tuple of at most eight guards."""
    if not isinstance(thing, tuple) or len(thing) > MOST_GUARDS:
        raise NoGuards()
    if not all([is_guard(part) for part in thing]):
        raise NoGuards()


def cells_of(guards):
    """All cells, as tuples (marks, shape, letter), in the order of their least letters."""
    ask_guards(guards)
    pieces, asks = cut([guard_shape(guard) for guard in guards])
    cells = [(marks, shape, least_in(shape)) for marks, shape in pieces]
    return sorted(cells, key=lambda cell: letter_key(cell[2]))


def asks_of(guards):
    """How many times is asked in all to find the cells."""
    ask_guards(guards)
    pieces, asks = cut([guard_shape(guard) for guard in guards])
    return asks


def is_of_cell(thing, cell):
    """Whether a thing is a tuple of a cell's marks and of one of its letters."""
    if not isinstance(thing, tuple) or len(thing) != 2:
        return False
    marks, letter = thing
    return marks == cell[0] and is_whole(letter) and holds(cell[1], letter)


def is_cut(guards, thing):
    """Whether a thing, of anything, is a cut: for each cell in order its marks and one of its letters."""
    cells = cells_of(guards)
    if not isinstance(thing, tuple) or len(thing) != len(cells):
        return False
    return all([is_of_cell(part, cell) for part, cell in zip(thing, cells)])
