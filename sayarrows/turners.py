"""Turners: like machines that are sure, but each arrow tells a letter for the one that it is gone on."""

from sayarrows.errors import BadTurner, NoTurner, NoWord, TooMany
from sayarrows.machines import AT_ENDS, AT_MANY, MOST_ARROWS, MOST_STATES, are_states, is_state
from sayarrows.sayings import is_whole_within, is_word, letter_key
from sayarrows.shapes import EMPTY, guard_shape, holds, is_guard, joining, least_in, meeting, moved
from sayarrows.tables import walked

MOST_TURN = 9999


def is_turn(thing):
    """Whether a thing is ("more", k) or ("put", c)."""
    if not isinstance(thing, tuple) or len(thing) != 2:
        return False
    return thing[0] in ("more", "put") and is_whole_within(thing[1], -MOST_TURN, MOST_TURN)


def is_turning_arrow(thing, many):
    """Whether a thing is a tuple (from, guard, turn, to)."""
    if not isinstance(thing, tuple) or len(thing) != 4:
        return False
    state, guard, turn, to = thing
    return is_state(state, many) and is_guard(guard) and is_turn(turn) and is_state(to, many)


def ask_turning_arrows(many, arrows):
    """Refuse arrows of which one is none, or is gone on a letter that another one from its state is gone on."""
    led = [EMPTY] * many
    for at, arrow in enumerate(arrows):
        if not is_turning_arrow(arrow, many):
            raise BadTurner(at)
        shape = guard_shape(arrow[1])
        if meeting(led[arrow[0]], shape) != EMPTY:
            raise BadTurner(at)
        led[arrow[0]] = joining(led[arrow[0]], shape)
    if len(arrows) > MOST_ARROWS:
        raise BadTurner(MOST_ARROWS)


def ask_turner_parts(many, ends, arrows):
    """Refuse what no turner can be made of."""
    if not is_whole_within(many, 1, MOST_STATES):
        raise BadTurner(AT_MANY)
    if not are_states(ends, many):
        raise BadTurner(AT_ENDS)
    if not isinstance(arrows, tuple):
        raise BadTurner(0)
    ask_turning_arrows(many, arrows)


def turns_by_state(many, arrows):
    """For each state the ways from it, tuples (shape, turn, to), in the order of its arrows."""
    turns = [[] for state in range(many)]
    for state, guard, turn, to in arrows:
        turns[state].append((guard_shape(guard), turn, to))
    return tuple([tuple(leaving) for leaving in turns])


class Turner:
    """A turner of many states, the numbers from 0 on, which begins in 0."""

    def __init__(self, many, ends, arrows):
        ask_turner_parts(many, ends, arrows)
        self.many = many
        self.ends = ends
        self.arrows = arrows
        # Known from the beginning on, so that no guard is made a shape for each word anew.
        self.turns = turns_by_state(many, arrows)

    def __len__(self):
        """How many states it has."""
        return len(self.turns)

    def __eq__(self, other):
        """Whether another turner was made of the same three."""
        return (isinstance(other, Turner) and self.many == other.many and self.ends == other.ends
                and self.arrows == other.arrows)

    def __repr__(self):
        """The turner as it is made."""
        return f"Turner({self.many}, ends={self.ends!r}, arrows={self.arrows!r})"


def ask_turner(thing):
    """Refuse what is no turner."""
    if not isinstance(thing, Turner):
        raise NoTurner()


def turned_letter(turn, letter):
    """The letter that a turn makes of one."""
    word, number = turn
    return number if word == "put" else letter + number


def way_on(turner, state, letter):
    """The turn and the state that a letter leads to from a state, None where it leads nowhere."""
    for shape, turn, to in turner.turns[state]:
        if holds(shape, letter):
            return turn, to
    return None


def turned_word(turner, word):
    """The word that a word is turned into, None where it is turned into none."""
    ask_turner(turner)
    if not is_word(word):
        raise NoWord()
    state = 0
    letters = []
    for letter in word:
        way = way_on(turner, state, letter)
        if way is None:
            return None
        turn, state = way
        letters.append(turned_letter(turn, letter))
    return tuple(letters) if state in turner.ends else None


def letters_into(shape, turn, aims):
    """The shape of those letters of a set that a turn makes letters of another set."""
    word, number = turn
    if word == "put":
        return shape if holds(aims, number) else EMPTY
    return meeting(shape, moved(aims, -number))


def turn_behind(first, second):
    """The one turn that does what a first and then a second one does."""
    if second[0] == "put":
        return second
    return first[0], first[1] + second[1]


def ways_of_both(one, other, pair):
    """The ways (shape, turn, pair) of a pair of states of two turners, in the order of their least letters."""
    ways = []
    for shape, turn, to in one.turns[pair[0]]:
        for other_shape, other_turn, other_to in other.turns[pair[1]]:
            letters = letters_into(shape, turn, other_shape)
            if letters != EMPTY:
                ways.append((letters, turn_behind(turn, other_turn), (to, other_to)))
    return sorted(ways, key=lambda way: letter_key(least_in(way[0])))


def turning_arrows(state, ways, aims):
    """The arrows from a state, one for each aim and turn, "more" ahead of "put"."""
    sides = {}
    for (shape, turn, pair), aim in zip(ways, aims):
        sides[aim, turn] = joining(sides.get((aim, turn), EMPTY), shape)
    # The words "more" and "put" come in this order as texts too.
    return [(state, sides[aim, turn], turn, aim) for aim, turn in sorted(sides)]


def turner_of_both(one, other):
    """The turner that turns a word by the first and what comes of it by the second."""
    ask_turner(one)
    ask_turner(other)
    ways = []

    def step(pair):
        """The pairs that are led to from one, in the order of the least letters that do; its ways are kept."""
        ways.append(ways_of_both(one, other, pair))
        return [aim for shape, turn, aim in ways[-1]]

    found, rows = walked((0, 0), step)
    if len(found) > MOST_STATES:
        raise TooMany(len(found), MOST_STATES)
    ends = [at for at, (state, to) in enumerate(found) if state in one.ends and to in other.ends]
    arrows = [arrow for at, row in enumerate(rows) for arrow in turning_arrows(at, ways[at], row)]
    return Turner(len(found), tuple(ends), tuple(arrows))
