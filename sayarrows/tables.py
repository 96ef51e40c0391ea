"""Machines piece by piece: all letters are cut into pieces, and it is told where each leads from each state.

A set of letters is a number here, as shapes.framed makes it; a set of states is one too, with the figure of
each state's number. Pieces stand in the order of their least letters, so that what is come to piece by piece
comes in the order of least words. A table is (rows, ends): for each state, 0 being the first, the list of the
states that the pieces lead to, and whether it is an end; it may have more states than a machine.
"""

from sayarrows.errors import TooMany
from sayarrows.machines import MOST_STATES, Machine
from sayarrows.sayings import letter_key
from sayarrows.shapes import EVERY, frame_of, framed, least_in, unframed


class Net:
    """What is gone through like a machine, however many states it has; it is told to nobody."""

    def __init__(self, ends, ways):
        self.many = len(ways)
        self.ends = ends
        self.ways = ways


def leads_of(machine, frame):
    """For each two states (from, to) with a way between them the letters that lead so."""
    leads = {}
    for state, leaving in enumerate(machine.ways):
        for shape, to in leaving:
            leads[state, to] = leads.get((state, to), 0) | framed(shape, frame)
    return leads


def pieces_of(sides, frame):
    """The pieces that all letters are cut into by sets, in the order of their least letters."""
    pieces = [framed(EVERY, frame)]
    for side in sides:
        pieces = [part for piece in pieces for part in (piece & side, piece & ~side) if part != 0]
    return sorted(pieces, key=lambda piece: letter_key(least_in(unframed(piece, frame))))


def letters_of(machines):
    """The frame, and the pieces within it, of which each letter leads as the others in all these machines."""
    frame = frame_of([shape for machine in machines for leaving in machine.ways for shape, to in leaving])
    sides = {side: True for machine in machines for side in leads_of(machine, frame).values()}
    return frame, pieces_of(sides, frame)


def first_letters_of(letters):
    """The least letter of each piece, in the order of the pieces."""
    frame, pieces = letters
    return [least_in(unframed(piece, frame)) for piece in pieces]


def mask_of(states):
    """The set of some states as a number."""
    return sum([1 << state for state in states])


def states_in(mask):
    """The states of a set, rising."""
    states = []
    while mask != 0:
        lowest = mask & -mask
        states.append(lowest.bit_length() - 1)
        mask ^= lowest
    return states


def masks_of(machine, letters):
    """For each state the sets of states that the pieces lead to."""
    frame, pieces = letters
    leads = leads_of(machine, frame)
    masks = [[0] * len(pieces) for state in range(machine.many)]
    for state, to in leads:
        side = leads[state, to]
        aim = 1 << to
        masks[state] = [mask | aim if piece & side != 0 else mask for mask, piece in zip(masks[state], pieces)]
    return masks


def aims_of(mask, masks):
    """The sets that the pieces lead to from all states of a set."""
    aims = [0] * len(masks[0])
    for state in states_in(mask):
        aims = [aim | more for aim, more in zip(aims, masks[state])]
    return aims


def walked(start, step):
    """All that is come to from a start, in the order of least words, and where the pieces lead by numbers in it.

    A step tells, of what is come to, the list of what the pieces lead to.
    """
    places = {start: 0}
    found = [start]
    rows = []
    while len(rows) < len(found):
        aims = step(found[len(rows)])
        for aim in aims:
            if aim not in places:
                places[aim] = len(found)
                found.append(aim)
        rows.append([places[aim] for aim in aims])
    return found, rows


def word_back(origins, at):
    """The word that was gone to a place, by the place ahead of each one and the letter from there."""
    letters = []
    while at > 0:
        at, letter = origins[at]
        letters.append(letter)
    return tuple(letters[::-1])


def sought(start, step, is_sought):
    """All that is come to from a start, and the least word to one that is sought, None where none is.

    A step tells, of what is come to, tuples (letter, aim) in the order of the letters. Where one is sought
    nothing behind it is gone through.
    """
    if is_sought(start):
        return [start], ()
    places = {start: 0}
    found = [start]
    origins = [(0, 0)]
    at = 0
    while at < len(found):
        ways = step(found[at])
        for letter, aim in ways:
            if aim not in places:
                places[aim] = len(found)
                found.append(aim)
                origins.append((at, letter))
                if is_sought(aim):
                    return found, word_back(origins, places[aim])
        at += 1
    return found, None


def sure_table(machine, letters):
    """The table of a machine's sets."""
    masks = masks_of(machine, letters)
    found, rows = walked(1, lambda mask: aims_of(mask, masks))
    ends = mask_of(machine.ends)
    return rows, [mask & ends != 0 for mask in found]


def states_ahead(column):
    """For each state the list of those that one piece leads there from."""
    ahead = [[] for state in column]
    for state, aim in enumerate(column):
        ahead[aim].append(state)
    return ahead


def parts_hit(aims, ahead, classes):
    """The states that one piece leads to some aims from, those of each class in a list of their own."""
    parts = {}
    for aim in aims:
        for state in ahead[aim]:
            parts.setdefault(classes[state], []).append(state)
    return list(parts.values())


def part_class(members, classes, part):
    """Cut a class into a part of it and the rest: the one with fewer states becomes the last class."""
    whole = members[classes[part[0]]]
    if 2 * len(part) > len(whole):
        larger = {state: True for state in part}
        part = [state for state in whole if state not in larger]
    for state in part:
        del whole[state]
        classes[state] = len(members)
    members.append({state: True for state in part})


def classes_of(rows, ends):
    """For each state the number of its class: from those of one class the same words lead to ends."""
    classes = [1 if is_end else 0 for is_end in ends]
    members = [{state: True for state, at in enumerate(classes) if at == number} for number in (0, 1)]
    # Pieces that lead alike from everywhere cut nothing that one of them doesn't.
    columns = {column: True for column in zip(*rows)}
    ahead_by_piece = [states_ahead(column) for column in columns]
    waiting = [0, 1]
    while waiting:
        # Classes are cut by this one as it is now, even where it is cut itself meanwhile.
        aims = list(members[waiting.pop()])
        for ahead in ahead_by_piece:
            parts = parts_hit(aims, ahead, classes)
            for part in parts:
                if len(part) < len(members[classes[part[0]]]):
                    # Of a class that is done the lesser part is enough; of one that waits the rest waits on.
                    waiting.append(len(members))
                    part_class(members, classes, part)
    return classes


def least_table(table):
    """The table of the fewest states that takes the same words, numbered in the order of least words."""
    rows, ends = table
    classes = classes_of(rows, ends)
    one_of = {at: state for state, at in enumerate(classes)}
    found, new_rows = walked(classes[0], lambda at: [classes[aim] for aim in rows[one_of[at]]])
    return new_rows, [ends[one_of[at]] for at in found]


def least_table_of(machine, letters):
    """The table of a machine's least machine, however many states it has."""
    return least_table(sure_table(machine, letters))


def arrows_from(state, row, letters):
    """The arrows from a state of a table, one for each state that some letter leads to, in their order."""
    frame, pieces = letters
    sides = {}
    for piece, aim in zip(pieces, row):
        sides[aim] = sides.get(aim, 0) | piece
    return [(state, unframed(sides[aim], frame), aim) for aim in sorted(sides)]


def machine_of(table, letters):
    """The machine of a table; refused where this has too many states."""
    rows, ends = table
    if len(rows) > MOST_STATES:
        raise TooMany(len(rows), MOST_STATES)
    arrows = [arrow for state, row in enumerate(rows) for arrow in arrows_from(state, row, letters)]
    return Machine(len(rows), tuple([state for state, is_end in enumerate(ends) if is_end]), tuple(arrows))


def least_machine(machine):
    """The least machine of a machine or a net; refused where it has too many states."""
    letters = letters_of([machine])
    return machine_of(least_table_of(machine, letters), letters)
