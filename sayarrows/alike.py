"""Machines held against one another: papers that anybody may look through, or the least word that tells otherwise."""

from sayarrows.machines import are_states, ask_machine, is_rising
from sayarrows.sayings import word_key
from sayarrows.shapes import EMPTY, least_in
from sayarrows.tables import aims_of, first_letters_of, letters_of, mask_of, masks_of, sought, states_in

# The pair of sets, as numbers, in which two machines begin.
BEGINNING = (1, 1)


def differ(first, second):
    """Whether just one of two is so."""
    return first != second


def goes_beyond(first, second):
    """Whether the first is so and the second isn't."""
    return first and not second


def pair_step(one, other):
    """The step from a pair of sets of states, as numbers, to those that the letters lead both to."""
    letters = letters_of([one, other])
    firsts = first_letters_of(letters)
    masks = masks_of(one, letters)
    other_masks = masks_of(other, letters)

    def step(pair):
        """The tuples (letter, pair) of the least letter of each piece, in their order."""
        aims = aims_of(pair[0], masks)
        other_aims = aims_of(pair[1], other_masks)
        return [(letter, (aim, other_aim)) for letter, aim, other_aim in zip(firsts, aims, other_aims)]

    return step


def pair_look(one, other, is_wrong):
    """The look at a pair, whether it is wrong that the first, and that the second, has an end."""
    ends = mask_of(one.ends)
    other_ends = mask_of(other.ends)
    return lambda pair: is_wrong(pair[0] & ends != 0, pair[1] & other_ends != 0)


def shown(pair):
    """A pair of sets as tuples of states."""
    return tuple(states_in(pair[0])), tuple(states_in(pair[1]))


def held(one, other, names, is_wrong):
    """The first name and the paper of all pairs that are come to, or the second and the least word to a wrong one."""
    ask_machine(one)
    ask_machine(other)
    found, word = sought(BEGINNING, pair_step(one, other), pair_look(one, other, is_wrong))
    if word is not None:
        return names[1], word
    return names[0], tuple(sorted([shown(pair) for pair in found]))


def compared(one, other):
    """("alike", paper), or ("apart", word) with the least word that just one of two machines takes."""
    return held(one, other, ("alike", "apart"), differ)


def within(one, other):
    """("within", paper), or ("beyond", word) with the least word that the first takes and the second doesn't."""
    return held(one, other, ("within", "beyond"), goes_beyond)


def is_pair(thing, one, other):
    """Whether a thing is a tuple of a rising tuple of states of each of two machines."""
    if not isinstance(thing, tuple) or len(thing) != 2:
        return False
    return are_states(thing[0], one.many) and are_states(thing[1], other.many)


def are_pairs(thing, one, other):
    """Whether a thing is a rising tuple of such pairs."""
    if not isinstance(thing, tuple) or not all([is_pair(part, one, other) for part in thing]):
        return False
    return is_rising(thing)


def is_paper(one, other, thing, is_wrong):
    """Whether a thing is a pairing of two machines with no wrong pair."""
    ask_machine(one)
    ask_machine(other)
    if not are_pairs(thing, one, other):
        return False
    pairs = {(mask_of(first), mask_of(second)): True for first, second in thing}
    look = pair_look(one, other, is_wrong)
    if BEGINNING not in pairs or any([look(pair) for pair in pairs]):
        return False
    step = pair_step(one, other)
    return all([aim in pairs for pair in pairs for letter, aim in step(pair)])


def is_alike_paper(one, other, thing):
    """Whether a thing, of anything, is an alike paper of two machines."""
    return is_paper(one, other, thing, differ)


def is_within_paper(one, other, thing):
    """Whether a thing, of anything, is a within paper of two machines."""
    return is_paper(one, other, thing, goes_beyond)


def gone_on(machine, words, level):
    """The least words by which states that have none yet are come to from some that have one of the same length."""
    found = {}
    for state in level:
        for shape, to in machine.ways[state]:
            if to in words or shape == EMPTY:
                continue
            word = words[state] + (least_in(shape),)
            if to not in found or word_key(word) < word_key(found[to]):
                found[to] = word
    return found


def least_words(machine):
    """For each state that is come to by some word the least one."""
    words = {0: ()}
    level = [0]
    while level:
        # Two states of one level may share their word, so those behind them are compared and not just met.
        found = gone_on(machine, words, level)
        words.update(found)
        level = list(found)
    return words


def first_word(machine):
    """The least word that a machine takes, None where it takes none."""
    ask_machine(machine)
    words = least_words(machine)
    return min([words[state] for state in machine.ends if state in words], key=word_key, default=None)


def empty_paper(machine):
    """The empty paper whose states are in each, None where a word is taken."""
    ask_machine(machine)
    states = tuple(sorted(least_words(machine)))
    if any([state in machine.ends for state in states]):
        return None
    return states


def is_empty_paper(machine, thing):
    """Whether a thing, of anything, is an empty paper of a machine."""
    ask_machine(machine)
    if not are_states(thing, machine.many) or 0 not in thing:
        return False
    if any([state in machine.ends for state in thing]):
        return False
    return all([to in thing for state in thing for shape, to in machine.ways[state] if shape != EMPTY])
