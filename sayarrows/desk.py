"""A desk: it keeps a yard, is told lines and answers with texts."""

from sayarrows.alike import first_word, within
from sayarrows.cells import cells_of
from sayarrows.errors import NoLine
from sayarrows.least import least_of
from sayarrows.machines import Machine, lacking_at, takes, unsure_at
from sayarrows.texts import number_in, numbers_in, saying_in, word_in, word_text
from sayarrows.yard import Yard, ask_name

MOST_FIGURES = 12


def asked_for(read):
    """What was read of a line; refused where it writes nothing."""
    if read is None:
        raise NoLine()
    return read


def many_of(text):
    """The number from 0 on, of at most twelve figures, that a word of a line writes."""
    if text.startswith("-") or len(text) > MOST_FIGURES:
        raise NoLine()
    return asked_for(number_in(text))


def ends_of(text):
    """The ends that a word of a line writes, whether they rise or not."""
    return () if text == "-" else tuple([many_of(part) for part in text.split(",")])


def do_put(yard, parts):
    """Put the machine of so many states without arrows."""
    many = many_of(parts[1])
    ends = ends_of(parts[2])
    ask_name(parts[0])
    yard.put(parts[0], Machine(many, ends, ()))
    return "ok"


def do_arrow(yard, parts):
    """Put a name's machine with an arrow more at its end."""
    arrow = (many_of(parts[1]), asked_for(saying_in(parts[2])), many_of(parts[3]))
    machine = yard.machine(parts[0])
    yard.put(parts[0], Machine(machine.many, machine.ends, machine.arrows + (arrow,)))
    return "ok"


def do_make(yard, parts):
    """Make a machine of others."""
    yard.make(parts[0], parts[1], tuple(parts[2:]))
    return "ok"


def do_drop(yard, parts):
    """Drop a name."""
    yard.drop(parts[0])
    return "ok"


def do_undo(yard, parts):
    """Undo the last deed."""
    yard.undo()
    return "ok"


def tell_takes(yard, parts):
    """Whether a name's machine takes a word."""
    word = asked_for(word_in(parts[1]))
    return "yes" if takes(yard.machine(parts[0]), word) else "no"


def tell_compare(yard, parts):
    """Whether the machines of two names are alike, or the word that parts them."""
    told, what = yard.compared(parts[0], parts[1])
    return told if told == "alike" else f"{told} {word_text(what)}"


def tell_within(yard, parts):
    """Whether the machine of a name goes no further than that of another, or the word by which it does."""
    told, what = within(yard.machine(parts[0]), yard.machine(parts[1]))
    return told if told == "within" else f"{told} {word_text(what)}"


def tell_first(yard, parts):
    """The least word that a name's machine takes."""
    word = first_word(yard.machine(parts[0]))
    return "none" if word is None else word_text(word)


def tell_size(yard, parts):
    """How many states the least machine of a name's has."""
    return str(least_of(yard.machine(parts[0])).many)


def tell_names(yard, parts):
    """The names that are there."""
    return " ".join(yard.names()) if len(yard) > 0 else "none"


def place_text(place):
    """A state and a letter, or that there is none."""
    return "yes" if place is None else f"{place[0]} {place[1]}"


def tell_sure(yard, parts):
    """Whether a name's machine is sure, or where it isn't."""
    return place_text(unsure_at(yard.machine(parts[0])))


def tell_full(yard, parts):
    """Whether a name's machine is full, or where it isn't."""
    return place_text(lacking_at(yard.machine(parts[0])))


def tell_cells(yard, parts):
    """The cells of sayings, each by its marks and its letter."""
    guards = tuple([asked_for(saying_in(part)) for part in parts])
    return " ".join([f"{marks}={letter}" for marks, shape, letter in cells_of(guards)])


# What answers by the first word of a line.
ACTIONS = {
    "put": do_put, "arrow": do_arrow, "make": do_make, "drop": do_drop, "undo": do_undo, "takes": tell_takes,
    "compare": tell_compare, "within": tell_within, "first": tell_first, "size": tell_size, "names": tell_names,
    "sure": tell_sure, "full": tell_full, "cells": tell_cells,
}

# How many words stand behind it at least and at most.
WIDTHS = {
    "put": (3, 3), "arrow": (4, 4), "make": (3, 4), "drop": (1, 1), "undo": (0, 0), "takes": (2, 2),
    "compare": (2, 2), "within": (2, 2), "first": (1, 1), "size": (1, 1), "names": (0, 0), "sure": (1, 1),
    "full": (1, 1), "cells": (1, 8),
}


def words_in(line):
    """The words of a line; refused where it is no text, has an empty word, another first one or another number."""
    if not isinstance(line, str):
        raise NoLine()
    words = line.split(" ")
    if "" in words or words[0] not in WIDTHS:
        raise NoLine()
    least, most = WIDTHS[words[0]]
    if not least < len(words) <= most + 1:
        raise NoLine()
    return words


class Desk:
    """What is told lines and answers with texts."""

    def __init__(self):
        self.yard = Yard()

    def say(self, line):
        """The answer to a line."""
        words = words_in(line)
        action = ACTIONS[words[0]]
        return action(self.yard, words[1:])
