"""Machines made sure and full, and the least ones of those that take the same words."""

from sayarrows.machines import ask_machine
from sayarrows.tables import least_machine, letters_of, machine_of, sure_table


def sure_of(machine):
    """The sure machine, with a state for each set of states that is come to by some word."""
    ask_machine(machine)
    letters = letters_of([machine])
    return machine_of(sure_table(machine, letters), letters)


def least_of(machine):
    """The sure and full machine of the fewest states that takes the same words."""
    ask_machine(machine)
    return least_machine(machine)
