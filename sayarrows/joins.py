"""Machines put together: each function tells the least machine of words made from those that others take."""

from sayarrows.machines import ask_machine
from sayarrows.tables import aims_of, least_table, least_table_of, letters_of, machine_of, mask_of, masks_of, walked


def joined(one, other, is_kept):
    """The least machine of the words that are kept by whether each of two machines takes them."""
    ask_machine(one)
    ask_machine(other)
    letters = letters_of([one, other])
    rows, ends = least_table_of(one, letters)
    other_rows, other_ends = least_table_of(other, letters)
    found, pair_rows = walked((0, 0), lambda pair: list(zip(rows[pair[0]], other_rows[pair[1]])))
    pair_ends = [is_kept(ends[first], other_ends[second]) for first, second in found]
    return machine_of(least_table((pair_rows, pair_ends)), letters)


def both_of(one, other):
    """The least machine of the words that both of two take."""
    return joined(one, other, lambda first, second: first and second)


def either_of(one, other):
    """The least machine of the words that one of two takes."""
    return joined(one, other, lambda first, second: first or second)


def less_of(one, other):
    """The least machine of the words that the first takes and the second doesn't."""
    return joined(one, other, lambda first, second: first and not second)


def few_masks(machine, letters):
    """Where the pieces lead, and the ends, of the machine itself or of its least one: of which there are fewer states.

    There may be as many sets as its states have, so each one that is spared halves them.
    """
    rows, ends = least_table_of(machine, letters)
    if machine.many <= len(rows):
        return masks_of(machine, letters), mask_of(machine.ends)
    # From the state that leads nowhere but to itself, and is no end, nothing is taken any more.
    lost = [state for state, row in enumerate(rows) if not ends[state] and all([aim == state for aim in row])]
    masks = [[0 if aim in lost else 1 << aim for aim in row] for row in rows]
    return masks, mask_of([state for state, is_end in enumerate(ends) if is_end])


def behind_of(one, other):
    """The least machine of a word of the first with a word of the second behind it."""
    ask_machine(one)
    ask_machine(other)
    letters = letters_of([one, other])
    rows, ends = least_table_of(one, letters)
    masks, aim = few_masks(other, letters)
    # Wherever the first may end, the second may begin.
    begun = [1 if is_end else 0 for is_end in ends]

    def step(pair):
        """The pairs of a state of the first and a set of states of the second that the pieces lead to."""
        state, mask = pair
        return [(after, more | begun[after]) for after, more in zip(rows[state], aims_of(mask, masks))]

    found, pair_rows = walked((0, begun[0]), step)
    return machine_of(least_table((pair_rows, [mask & aim != 0 for state, mask in found])), letters)


def again_of(machine):
    """The least machine of any number of words of one behind one another, none too."""
    ask_machine(machine)
    letters = letters_of([machine])
    masks, ends = few_masks(machine, letters)

    def step(pair):
        """The pairs of a set of states, begun anew where one is an end, and that it is not the beginning."""
        return [(aim | 1 if aim & ends != 0 else aim, 0) for aim in aims_of(pair[0], masks)]

    # The beginning is told apart from state 0 come to again, which need be no end.
    found, rows = walked((1, 1), step)
    return machine_of(least_table((rows, [first == 1 or mask & ends != 0 for mask, first in found])), letters)


def other_of(machine):
    """The least machine of the words that a machine doesn't take."""
    ask_machine(machine)
    letters = letters_of([machine])
    rows, ends = least_table_of(machine, letters)
    return machine_of((rows, [not is_end for is_end in ends]), letters)


def masks_back(rows):
    """For each state of a table the sets of those that the pieces lead there from."""
    masks = [[0] * len(rows[0]) for row in rows]
    for state, row in enumerate(rows):
        for piece, aim in enumerate(row):
            masks[aim][piece] |= 1 << state
    return masks


def backward_of(machine):
    """The least machine of the words of one read backward."""
    ask_machine(machine)
    letters = letters_of([machine])
    rows, ends = least_table_of(machine, letters)
    masks = masks_back(rows)
    start = mask_of([state for state, is_end in enumerate(ends) if is_end])
    found, back_rows = walked(start, lambda mask: aims_of(mask, masks))
    return machine_of(least_table((back_rows, [mask & 1 != 0 for mask in found])), letters)
