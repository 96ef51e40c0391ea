"""Letters, words and their orders, and sayings, which tell of each letter whether it fits."""

from sayarrows.errors import NoLetter, NoSaying, NoWord

BOUND = 99
MOST_TUPLES = 30
LEAST_DIVISOR = 2
MOST_DIVISOR = 6

# How many parts a saying has, its own word counted, by that word.
WIDTHS = {"all": 1, "none": 1, "from": 2, "to": 2, "rest": 3, "not": 2, "both": 3, "either": 3}


def is_whole(thing):
    """Whether a thing is a whole number, which a letter is too: no truth, whatever its size."""
    return isinstance(thing, int) and not isinstance(thing, bool)


def is_whole_within(thing, low, high):
    """Whether a thing is a whole number from low to high, both counted."""
    return is_whole(thing) and low <= thing <= high


def is_word(thing):
    """Whether a thing is a word: a tuple of letters."""
    return isinstance(thing, tuple) and all([is_whole(part) for part in thing])


def letter_key(letter):
    """The place of a letter among all of them: 0, 1, -1, 2, -2 and on."""
    if letter > 0:
        return 2 * letter - 1
    return -2 * letter


def word_key(word):
    """What words are put in order by: their lengths, then their letters."""
    return len(word), [letter_key(letter) for letter in word]


def ordered(words):
    """The words of a list in their order, twins too, as a new list."""
    if not isinstance(words, list) or not all([is_word(word) for word in words]):
        raise NoWord()
    return sorted(words, key=word_key)


def has_form(part):
    """Whether a thing is like a saying, but for the sayings within it."""
    if not isinstance(part, tuple) or len(part) == 0 or not isinstance(part[0], str):
        return False
    word = part[0]
    if WIDTHS.get(word) != len(part):
        return False
    if word in ("from", "to"):
        return is_whole_within(part[1], -BOUND, BOUND)
    if word == "rest":
        divisor, remainder = part[1:]
        return is_whole_within(divisor, LEAST_DIVISOR, MOST_DIVISOR) and is_whole_within(remainder, 0, divisor - 1)
    return True


def is_saying(thing):
    """Whether a thing, of anything, is a saying."""
    waiting = [thing]
    seen = 0
    # No recursion: a thing may be deeper and wider than any saying, and the count ends the look at it early.
    while waiting:
        part = waiting.pop()
        seen += 1
        if seen > MOST_TUPLES or not has_form(part):
            return False
        if part[0] in ("not", "both", "either"):
            waiting.extend(part[1:])
    return True


def is_met(saying, letter):
    """Whether a letter fits a saying; both are known to be what they should."""
    word = saying[0]
    if word == "from":
        return letter >= saying[1]
    if word == "to":
        return letter <= saying[1]
    if word == "rest":
        return letter % saying[1] == saying[2]
    if word == "not":
        return not is_met(saying[1], letter)
    if word == "both":
        return is_met(saying[1], letter) and is_met(saying[2], letter)
    if word == "either":
        return is_met(saying[1], letter) or is_met(saying[2], letter)
    return word == "all"


def fits(saying, letter):
    """Whether a letter fits a saying."""
    if not is_saying(saying):
        raise NoSaying()
    if not is_whole(letter):
        raise NoLetter()
    return is_met(saying, letter)
