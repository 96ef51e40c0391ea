"""What turners make of sets of words, and turners held against one another."""

from sayarrows.machines import ask_machine, is_rising, is_state
from sayarrows.sayings import is_whole_within, letter_key
from sayarrows.shapes import EMPTY, EVERY, joining, least_in, meeting, moved, only, outside
from sayarrows.tables import Net, least_machine, least_table_of, letters_of, machine_of, sought, walked
from sayarrows.turners import ask_turner, letters_into

# Where no way is left.
NOWHERE = -1

BEGINNING = (0, 0, 1)


def letters_out_of(shape, turn, taken):
    """The shape of what a turn makes of the letters that are in both of two sets."""
    letters = meeting(shape, taken)
    if letters == EMPTY:
        return EMPTY
    word, number = turn
    return only(number) if word == "put" else moved(letters, number)


def pair_ways(turner, machine, pair, letters_by):
    """The ways (shape, pair) of a pair of a turner's state and a machine's."""
    ways = []
    for shape, turn, to in turner.turns[pair[0]]:
        for taken, aim in machine.ways[pair[1]]:
            letters = letters_by(shape, turn, taken)
            if letters != EMPTY:
                ways.append((letters, (to, aim)))
    return ways


def net_of(turner, machine, letters_by):
    """The net of the pairs of states that are come to, with the letters that a function tells on its ways."""
    shapes = []

    def step(pair):
        """The pairs that are led to from one; the letters that do are kept."""
        ways = pair_ways(turner, machine, pair, letters_by)
        shapes.append([shape for shape, aim in ways])
        return [aim for shape, aim in ways]

    found, rows = walked((0, 0), step)
    ends = [at for at, (state, other) in enumerate(found) if state in turner.ends and other in machine.ends]
    return Net(ends, [list(zip(kept, row)) for kept, row in zip(shapes, rows)])


def live_states(net):
    """The states, as keys of a dict, from which an end is come to."""
    ahead = [[] for state in range(net.many)]
    for state, leaving in enumerate(net.ways):
        for shape, to in leaving:
            ahead[to].append(state)
    live = {}
    waiting = list(net.ends)
    while waiting:
        state = waiting.pop()
        if state not in live:
            live[state] = True
            waiting.extend(ahead[state])
    return live


def lively(net):
    """The net without the ways from which no end is come to any more."""
    live = live_states(net)
    return Net(net.ends, [[(shape, to) for shape, to in leaving if to in live] for leaving in net.ways])


def with_fewer_states(machine):
    """The machine itself or its least one, whichever has fewer states."""
    letters = letters_of([machine])
    table = least_table_of(machine, letters)
    # The machine's own states are never too many, so neither are fewer.
    return machine_of(table, letters) if len(table[0]) < machine.many else machine


def led_into(turner, machine):
    """The least machine of the words that are turned into words that a machine takes."""
    ask_turner(turner)
    ask_machine(machine)
    return least_machine(lively(net_of(turner, with_fewer_states(machine), letters_into)))


def image_of(turner, machine):
    """The least machine of the words that words that a machine takes are turned into."""
    ask_turner(turner)
    ask_machine(machine)
    return least_machine(lively(net_of(turner, with_fewer_states(machine), letters_out_of)))


def ways_or_nowhere(turner, state):
    """The ways from a state of a turner, or from nowhere, with the one of all other letters to nowhere."""
    if state == NOWHERE:
        return [(EVERY, None, NOWHERE)]
    led = EMPTY
    for shape, turn, to in turner.turns[state]:
        led = joining(led, shape)
    return list(turner.turns[state]) + [(outside(led), None, NOWHERE)]


def turned_alike(turn, other):
    """The shape of the letters that two turns make the same of, none where one of both is no turn."""
    if turn is None or other is None:
        return EMPTY
    if turn[0] == other[0]:
        return EVERY if turn[1] == other[1] else EMPTY
    # What one puts, the other makes of one letter alone.
    return only(turn[1] - other[1] if turn[0] == "put" else other[1] - turn[1])


def parted_letters(letters, turn, other_turn, same):
    """The least letters of a set that two turns make the same of, with 1, and of the rest, with 0, where there are any.

    Where words were turned otherwise ahead, all are of the rest.
    """
    alike = turned_alike(turn, other_turn) if same == 1 else EMPTY
    firsts = [(least_in(meeting(letters, alike)), 1), (least_in(meeting(letters, outside(alike))), 0)]
    return [(letter, mark) for letter, mark in firsts if letter is not None]


def triple_step(one, other):
    """The step from a tuple (one, other, same) to those that the letters lead to."""

    def step(triple):
        """The tuples (letter, triple), in the order of the letters."""
        state, other_state, same = triple
        found = []
        for shape, turn, to in ways_or_nowhere(one, state):
            for other_shape, other_turn, other_to in ways_or_nowhere(other, other_state):
                letters = meeting(shape, other_shape)
                for letter, mark in parted_letters(letters, turn, other_turn, same):
                    found.append((letter, (to, other_to, mark)))
        return sorted(found, key=lambda way: letter_key(way[0]))

    return step


def is_turned_otherwise(one, other, triple):
    """Whether a word that leads to a tuple is turned by just one of two turners, or into two unlike words."""
    first = triple[0] in one.ends
    second = triple[1] in other.ends
    return first != second or (first and second and triple[2] == 0)


def turns_compared(one, other):
    """("alike", paper), or ("apart", word) with the least word that two turners turn otherwise."""
    ask_turner(one)
    ask_turner(other)
    found, word = sought(BEGINNING, triple_step(one, other), lambda triple: is_turned_otherwise(one, other, triple))
    if word is not None:
        return "apart", word
    return "alike", tuple(sorted(found))


def is_state_or_nowhere(thing, many):
    """Whether a thing is one of so many states, or -1."""
    return is_state(thing, many) or thing == NOWHERE


def is_triple(thing, one, other):
    """Whether a thing is a tuple (one, other, same) of two turners."""
    if not isinstance(thing, tuple) or len(thing) != 3:
        return False
    state, other_state, same = thing
    if not is_state_or_nowhere(state, one.many) or not is_state_or_nowhere(other_state, other.many):
        return False
    return is_whole_within(same, 0, 1)


def is_turn_paper(one, other, thing):
    """Whether a thing, of anything, is a turn paper of two turners."""
    ask_turner(one)
    ask_turner(other)
    if not isinstance(thing, tuple) or not all([is_triple(part, one, other) for part in thing]):
        return False
    if not is_rising(thing) or BEGINNING not in thing:
        return False
    triples = {triple: True for triple in thing}
    if any([is_turned_otherwise(one, other, triple) for triple in triples]):
        return False
    step = triple_step(one, other)
    return all([aim in triples for triple in triples for letter, aim in step(triple)])
