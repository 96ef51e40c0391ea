"""Machines: few states, and arrows from one to another, each with a guard that tells the letters it is gone on."""

from sayarrows.errors import BadMachine, NoMachine, NoWord
from sayarrows.sayings import is_whole_within, is_word
from sayarrows.shapes import EMPTY, guard_shape, holds, is_guard, joining, least_in, meeting, outside

MOST_STATES = 40
MOST_ARROWS = 1600

# What BadMachine tells where it is no arrow that is none.
AT_MANY = -2
AT_ENDS = -1


def is_state(thing, many):
    """Whether a thing is one of so many states."""
    return is_whole_within(thing, 0, many - 1)


def is_rising(parts):
    """Whether each part of a tuple is less than the next one."""
    return all([part < after for part, after in zip(parts, parts[1:])])


def are_states(thing, many):
    """Whether a thing is a rising tuple of states."""
    if not isinstance(thing, tuple) or not all([is_state(part, many) for part in thing]):
        return False
    return is_rising(thing)


def is_arrow(thing, many):
    """Whether a thing is a tuple (from, guard, to)."""
    if not isinstance(thing, tuple) or len(thing) != 3:
        return False
    return is_state(thing[0], many) and is_guard(thing[1]) and is_state(thing[2], many)


def ask_parts(many, ends, arrows):
    """Refuse what no machine can be made of."""
    if not is_whole_within(many, 1, MOST_STATES):
        raise BadMachine(AT_MANY)
    if not are_states(ends, many):
        raise BadMachine(AT_ENDS)
    if not isinstance(arrows, tuple):
        raise BadMachine(0)
    for at, arrow in enumerate(arrows):
        if not is_arrow(arrow, many):
            raise BadMachine(at)
    if len(arrows) > MOST_ARROWS:
        raise BadMachine(MOST_ARROWS)


def ways_by_state(many, arrows):
    """For each state the ways from it, tuples (shape, to), in the order of its arrows."""
    ways = [[] for state in range(many)]
    for state, guard, to in arrows:
        ways[state].append((guard_shape(guard), to))
    return tuple([tuple(leaving) for leaving in ways])


class Machine:
    """A machine of many states, the numbers from 0 on, which begins in 0."""

    def __init__(self, many, ends, arrows):
        ask_parts(many, ends, arrows)
        self.many = many
        self.ends = ends
        self.arrows = arrows
        # Known from the beginning on, so that no guard is made a shape for each word anew.
        self.ways = ways_by_state(many, arrows)

    def __len__(self):
        """How many states it has."""
        return len(self.ways)

    def __eq__(self, other):
        """Whether another machine was made of the same three."""
        return (isinstance(other, Machine) and self.many == other.many and self.ends == other.ends
                and self.arrows == other.arrows)

    def __repr__(self):
        """The machine as it is made."""
        return f"Machine({self.many}, ends={self.ends!r}, arrows={self.arrows!r})"


def ask_machine(thing):
    """Refuse what is no machine."""
    if not isinstance(thing, Machine):
        raise NoMachine()


def stepped(machine, states, letter):
    """The states, rising, that a letter leads to from some states."""
    return sorted({to for state in states for shape, to in machine.ways[state] if holds(shape, letter)})


def come_to(machine, word):
    """The states that are come to by a word on all ways, a rising tuple."""
    ask_machine(machine)
    if not is_word(word):
        raise NoWord()
    states = [0]
    for letter in word:
        states = stepped(machine, states, letter)
    return tuple(states)


def takes(machine, word):
    """Whether a machine takes a word."""
    return any([state in machine.ends for state in come_to(machine, word)])


def letters_by_aim(leaving):
    """For each state that ways lead to the shape of all letters that do."""
    sides = {}
    for shape, to in leaving:
        sides[to] = joining(sides.get(to, EMPTY), shape)
    return sides


def unsure_letter(leaving):
    """The least letter that is led to two unlike states by ways from one, None where there is none."""
    once = EMPTY
    twice = EMPTY
    for shape in letters_by_aim(leaving).values():
        twice = joining(twice, meeting(once, shape))
        once = joining(once, shape)
    return least_in(twice)


def lacking_letter(leaving):
    """The least letter that no way from one state is gone on, None where there is none."""
    led = EMPTY
    for shape, to in leaving:
        led = joining(led, shape)
    return least_in(outside(led))


def first_found(letters):
    """The first state, with its letter, of which there is one, None where there is none."""
    for state, letter in enumerate(letters):
        if letter is not None:
            return state, letter
    return None


def unsure_at(machine):
    """None where a machine is sure, else the least state and letter that lead to two unlike states."""
    ask_machine(machine)
    return first_found([unsure_letter(leaving) for leaving in machine.ways])


def lacking_at(machine):
    """None where a machine is full, else the least state and letter that lead nowhere."""
    ask_machine(machine)
    return first_found([lacking_letter(leaving) for leaving in machine.ways])
