"""Why a machine is the least one: a word to each state, and of each two states a word that parts them."""

from sayarrows.alike import least_words
from sayarrows.machines import ask_machine, come_to, lacking_at, stepped, unsure_at
from sayarrows.sayings import is_whole, is_word
from sayarrows.tables import first_letters_of, letters_of, masks_of


def is_sure_and_full(machine):
    """Whether each letter leads from each state to just one."""
    return unsure_at(machine) is None and lacking_at(machine) is None


def pairs_of(many):
    """Each two of so many states, rising."""
    return [(state, other) for state in range(many) for other in range(state + 1, many)]


def rows_of(machine, letters):
    """For each state of a sure and full machine the states that the pieces lead to."""
    return [[mask.bit_length() - 1 for mask in row] for row in masks_of(machine, letters)]


def pair_aims(row, other_row, firsts):
    """The pairs that two states are led to, each with the least letter that does, in the order of these."""
    aims = {}
    for letter, aim, other_aim in zip(firsts, row, other_row):
        if aim != other_aim:
            aims.setdefault((min(aim, other_aim), max(aim, other_aim)), letter)
    return aims


def parted_next(waiting, words):
    """The least words of those pairs that one letter leads to pairs that have one."""
    found = {}
    for pair, aims in waiting.items():
        known = [aim for aim in aims if aim in words]
        if known:
            found[pair] = (aims[known[0]],) + words[known[0]]
    return found


def parting_words(machine):
    """For each two states of a sure and full machine that some word parts the least one."""
    letters = letters_of([machine])
    rows = rows_of(machine, letters)
    firsts = first_letters_of(letters)
    pairs = pairs_of(machine.many)
    words = {(state, other): () for state, other in pairs if (state in machine.ends) != (other in machine.ends)}
    waiting = {pair: pair_aims(rows[pair[0]], rows[pair[1]], firsts) for pair in pairs if pair not in words}
    while True:
        # Longer words by one letter each time, so that no pair is given a longer word than it needs.
        found = parted_next(waiting, words)
        if not found:
            return words
        for pair in found:
            words[pair] = found[pair]
            del waiting[pair]


def why_least(machine):
    """The why of a machine of the least words, None where it isn't sure, full and of the fewest states."""
    ask_machine(machine)
    if not is_sure_and_full(machine):
        return None
    words = least_words(machine)
    if len(words) < machine.many:
        return None
    parting = parting_words(machine)
    pairs = pairs_of(machine.many)
    if len(parting) < len(pairs):
        return None
    parts = [(state, other, parting[state, other]) for state, other in pairs]
    return tuple([words[state] for state in range(machine.many)]), tuple(parts)


def ends_from(machine, state, word):
    """Whether a word leads from a state of a sure and full machine to an end."""
    states = [state]
    for letter in word:
        states = stepped(machine, states, letter)
    return states[0] in machine.ends


def is_part(machine, pair, thing):
    """Whether a thing is a tuple of two states and a word that parts them."""
    if not isinstance(thing, tuple) or len(thing) != 3:
        return False
    state, other, word = thing
    if not (is_whole(state) and is_whole(other) and (state, other) == pair and is_word(word)):
        return False
    return ends_from(machine, state, word) != ends_from(machine, other, word)


def are_words_to(machine, thing):
    """Whether a thing is a tuple with, for each state in order, a word that leads there."""
    if not isinstance(thing, tuple) or len(thing) != machine.many or not all([is_word(word) for word in thing]):
        return False
    return all([come_to(machine, word) == (state,) for state, word in enumerate(thing)])


def are_parts(machine, thing):
    """Whether a thing is a tuple with, for each two states in order, a word that parts them."""
    pairs = pairs_of(machine.many)
    if not isinstance(thing, tuple) or len(thing) != len(pairs):
        return False
    return all([is_part(machine, pair, part) for pair, part in zip(pairs, thing)])


def is_why(machine, thing):
    """Whether a thing, of anything, is a why of a machine."""
    ask_machine(machine)
    if not is_sure_and_full(machine) or not isinstance(thing, tuple) or len(thing) != 2:
        return False
    return are_words_to(machine, thing[0]) and are_parts(machine, thing[1])
