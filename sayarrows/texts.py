"""Texts of guards, words and machines, and what such texts write, just so.

The functions in the first half tell None of a text, or of a part of one, that writes nothing; those at the end
are the ones that refuse what is handed in.
"""

from sayarrows.errors import NoGuard, NoText, NoWord
from sayarrows.machines import MOST_ARROWS, MOST_STATES, Machine, are_states, ask_machine, is_arrow
from sayarrows.sayings import MOST_TUPLES, is_saying, is_whole_within, is_word
from sayarrows.shapes import is_guard, is_shape

FIGURES = "0123456789"

# The lines of a machine ahead of its arrows.
LINES_AHEAD = 2


def number_in(text):
    """The whole number that a text writes: no nought ahead, but 0 itself."""
    figures = text.removeprefix("-")
    if figures == "" or figures.strip(FIGURES) != "":
        return None
    if figures.startswith("0") and text != "0":
        return None
    return int(text)


def numbers_in(texts):
    """The tuple of the whole numbers that texts write, None where one writes none."""
    numbers = [number_in(text) for text in texts]
    return None if None in numbers else tuple(numbers)


def word_in(text):
    """The word that a text writes."""
    return () if text == "-" else numbers_in(text.split(","))


def saying_text(saying):
    """The text of what is known to be a saying."""
    word = saying[0]
    if word == "from":
        return f">={saying[1]}"
    if word == "to":
        return f"<={saying[1]}"
    if word == "rest":
        return f"{saying[1]}:{saying[2]}"
    if word == "not":
        return "!" + saying_text(saying[1])
    if word == "both":
        return f"({saying_text(saying[1])}&{saying_text(saying[2])})"
    if word == "either":
        return f"({saying_text(saying[1])}|{saying_text(saying[2])})"
    return word


def shape_text(shape):
    """The text of what is known to be like a shape."""
    left, low, middle, right = shape
    shown = "." if middle == "" else middle
    return f"[{left} {low} {shown} {right}]"


def number_at(text, at):
    """The number that is written from a place on, with the place behind it."""
    behind = at + 1 if text.startswith("-", at) else at
    while behind < len(text) and text[behind] in FIGURES:
        behind += 1
    number = number_in(text[at:behind])
    return None if number is None else (number, behind)


def bound_at(text, at, word):
    """The saying of one bound that is written from its number on, with the place behind it."""
    found = number_at(text, at)
    return None if found is None else ((word, found[0]), found[1])


def rest_at(text, at):
    """The saying of a remainder that is written from a place on, with the place behind it."""
    divisor = number_at(text, at)
    if divisor is None or not text.startswith(":", divisor[1]):
        return None
    remainder = number_at(text, divisor[1] + 1)
    return None if remainder is None else (("rest", divisor[0], remainder[0]), remainder[1])


def not_at(text, at, depth):
    """The saying of what doesn't fit another that is written from a place on, with the place behind it."""
    found = saying_at(text, at, depth + 1)
    return None if found is None else (("not", found[0]), found[1])


def two_at(text, at, depth):
    """The saying of two that are written from a place on, with the place behind it."""
    one = saying_at(text, at, depth + 1)
    if one is None or text[one[1]:one[1] + 1] not in ("&", "|"):
        return None
    other = saying_at(text, one[1] + 1, depth + 1)
    if other is None or not text.startswith(")", other[1]):
        return None
    word = "both" if text[one[1]] == "&" else "either"
    return (word, one[0], other[0]), other[1] + 1


def saying_at(text, at, depth):
    """What is like a saying and is written from a place on, with the place behind it."""
    # Deeper than that there is no saying, however it goes on.
    if depth > MOST_TUPLES:
        return None
    for word in ("all", "none"):
        if text.startswith(word, at):
            return (word,), at + len(word)
    if text.startswith(">=", at):
        return bound_at(text, at + 2, "from")
    if text.startswith("<=", at):
        return bound_at(text, at + 2, "to")
    if text.startswith("!", at):
        return not_at(text, at + 1, depth)
    if text.startswith("(", at):
        return two_at(text, at + 1, depth)
    return rest_at(text, at)


def saying_in(text):
    """The saying that a text writes."""
    found = saying_at(text, 0, 1)
    if found is None or found[1] != len(text) or not is_saying(found[0]):
        return None
    return found[0]


def shape_in(text):
    """The shape that a text writes."""
    parts = text.removeprefix("[").removesuffix("]").split(" ")
    if len(parts) != 4:
        return None
    left, low_text, middle, right = parts
    shape = (left, number_in(low_text), "" if middle == "." else middle, right)
    # An empty middle is written as a point and not at all otherwise, so the text must be the shape's own.
    return shape if is_shape(shape) and shape_text(shape) == text else None


def guard_in(text):
    """The guard that a text writes."""
    return shape_in(text) if text.startswith("[") else saying_in(text)


def many_in(line):
    """How many states the first line of a machine writes."""
    words = line.split(" ")
    if len(words) != 2 or words[0] != "machine":
        return None
    many = number_in(words[1])
    return many if is_whole_within(many, 1, MOST_STATES) else None


def ends_in(line, many):
    """The ends that the second line of a machine of so many states writes."""
    words = line.split(" ")
    ends = numbers_in(words[1:])
    return ends if words[0] == "ends" and are_states(ends, many) else None


def arrow_in(line, many):
    """The arrow that a later line of a machine of so many states writes."""
    words = line.split(" ")
    if len(words) < 4 or words[0] != "arrow":
        return None
    # A shape has blanks within.
    arrow = (number_in(words[1]), guard_in(" ".join(words[2:-1])), number_in(words[-1]))
    return arrow if is_arrow(arrow, many) else None


def arrows_in(lines, many):
    """The arrows that lines write; refused where one writes none, or too many."""
    arrows = []
    for at, line in enumerate(lines):
        arrow = arrow_in(line, many)
        if arrow is None or at >= MOST_ARROWS:
            raise NoText(at + LINES_AHEAD + 1)
        arrows.append(arrow)
    return arrows


def guard_text(guard):
    """The text of a guard."""
    if not is_guard(guard):
        raise NoGuard()
    return saying_text(guard) if is_saying(guard) else shape_text(guard)


def word_text(word):
    """The text of a word."""
    if not is_word(word):
        raise NoWord()
    return "-" if word == () else ",".join([str(letter) for letter in word])


def machine_text(machine):
    """The text of a machine."""
    ask_machine(machine)
    lines = [f"machine {machine.many}", " ".join(["ends"] + [str(end) for end in machine.ends])]
    lines += [f"arrow {state} {guard_text(guard)} {to}" for state, guard, to in machine.arrows]
    return "".join([line + "\n" for line in lines])


def ask_text(thing):
    """Refuse what is no text."""
    if not isinstance(thing, str):
        raise NoText(0)


def read_whole(text, read):
    """What a text of one line writes, by the function that reads it."""
    ask_text(text)
    found = read(text)
    if found is None:
        raise NoText(1)
    return found


def read_guard(text):
    """The guard that a text writes."""
    return read_whole(text, guard_in)


def read_word(text):
    """The word that a text writes."""
    return read_whole(text, word_in)


def read_machine(text):
    """The machine that a text writes."""
    ask_text(text)
    if not text.endswith("\n"):
        raise NoText(0)
    lines = text.split("\n")[:-1]
    many = many_in(lines[0])
    if many is None:
        raise NoText(1)
    ends = ends_in(lines[1], many) if len(lines) > 1 else None
    if ends is None:
        raise NoText(2)
    return Machine(many, ends, tuple(arrows_in(lines[LINES_AHEAD:], many)))
