"""Shapes: each set of letters that a saying tells has just one, a tuple (left, low, middle, right).

The functions in the first half take what is known to be a shape, a saying or a number, and look at
nothing; those in the second half are the ones that refuse what is handed in and is none.
"""

from sayarrows.errors import NoGuard, NoLetter, NoShape
from sayarrows.sayings import is_saying, is_whole, is_whole_within

# Each remainder that a saying asks for is the same again after so many letters.
ROUND = 60
MOST_MOVE = 9999

EVERY = ("1", 0, "", "1")
EMPTY = ("0", 0, "", "0")


def stretch(text, first, behind):
    """The signs that a left or right tells of the letters from first on and below behind."""
    many = behind - first
    start = first % len(text)
    return (text * (many // len(text) + 2))[start:start + many]


def bits_of(text):
    """The number whose binary figures are the signs of a text, 0 of an empty one."""
    return int("0" + text, 2)


def alike_ahead(one, other):
    """How many signs two texts of one length have ahead of the first that differs."""
    unlike = bits_of(one) ^ bits_of(other)
    return len(one) - unlike.bit_length()


def alike_behind(one, other):
    """How many signs two texts of one length have behind the last that differs."""
    unlike = bits_of(one) ^ bits_of(other)
    if unlike == 0:
        return len(one)
    return (unlike & -unlike).bit_length() - 1


def shortest(text):
    """The shortest left or right that tells the same as this one."""
    # A text is found again within two of it just after each piece that it is made of again and again.
    return text[:(text + text).find(text, 1)]


def trimmed(left, low, middle, right):
    """The one shape of the set that these four tell, whatever their length, low and middle."""
    left = shortest(left)
    right = shortest(right)
    behind = low + len(middle)
    # Left and right that agree on a whole round agree on all letters: so none that differs is overlooked.
    signs = middle + stretch(right, behind, behind + ROUND)
    skipped = alike_ahead(signs, stretch(left, low, low + len(signs)))
    if skipped == len(signs):
        return (left, 0, "", left)
    low += skipped
    middle = middle[skipped:]
    kept = len(middle) - alike_behind(middle, stretch(right, low, low + len(middle)))
    return (left, low, middle[:kept], right)


def is_placeless(shape):
    """Whether all letters are told by left alone, so that low is nowhere in particular."""
    return shape[0] == shape[3] and shape[2] == ""


def frame_of(shapes):
    """The numbers (low, behind) between which the middles of all these shapes lie."""
    placed = [shape for shape in shapes if not is_placeless(shape)]
    low = min([shape[1] for shape in placed], default=0)
    behind = max([shape[1] + len(shape[2]) for shape in placed], default=0)
    return low, behind


def widened(shape, low, behind):
    """The signs of a shape from low on and below behind, no less than its own middle."""
    left, own_low, middle, right = shape
    if is_placeless(shape):
        return stretch(left, low, behind)
    own_behind = own_low + len(middle)
    return stretch(left, low, own_low) + middle + stretch(right, own_behind, behind)


def framed(shape, frame):
    """A set as one number: its figures are a round of left, what lies within a frame, and a round of right."""
    left, low, middle, right = shape
    return bits_of(stretch(left, 0, ROUND) + widened(shape, frame[0], frame[1]) + stretch(right, 0, ROUND))


def unframed(bits, frame):
    """The shape of the set that is such a number in a frame."""
    low, behind = frame
    signs = f"{bits:b}".zfill(behind - low + 2 * ROUND)
    return trimmed(signs[:ROUND], low, signs[ROUND:-ROUND], signs[-ROUND:])


def only(letter):
    """The shape of one letter alone."""
    return ("0", letter, "1", "0")


def meeting(one, other):
    """The shape of the letters in both of two sets."""
    # Sets that need no reckoning are met often.
    if one == EMPTY or other == EVERY:
        return one
    if other == EMPTY or one == EVERY:
        return other
    frame = frame_of([one, other])
    return unframed(framed(one, frame) & framed(other, frame), frame)


def flipped(text):
    """A text with each of its signs made the other one."""
    return text.translate(str.maketrans("01", "10"))


def outside(shape):
    """The shape of all letters that are not in a set."""
    left, low, middle, right = shape
    return (flipped(left), low, flipped(middle), flipped(right))


def joining(one, other):
    """The shape of the letters in one of two sets."""
    return outside(meeting(outside(one), outside(other)))


def moved(shape, by):
    """The shape of the letters of a set each made greater by a number."""
    left, low, middle, right = shape
    new_left = stretch(left, -by, len(left) - by)
    if is_placeless(shape):
        return (new_left, 0, "", new_left)
    return (new_left, low + by, middle, stretch(right, -by, len(right) - by))


def told_by(saying):
    """The shape of the letters that fit a saying."""
    word = saying[0]
    if word == "all":
        return EVERY
    if word == "from":
        return ("0", saying[1], "", "1")
    if word == "to":
        return ("1", saying[1] + 1, "", "0")
    if word == "rest":
        signs = "".join(["1" if place == saying[2] else "0" for place in range(saying[1])])
        return (signs, 0, "", signs)
    if word == "not":
        return outside(told_by(saying[1]))
    if word == "both":
        return meeting(told_by(saying[1]), told_by(saying[2]))
    if word == "either":
        return joining(told_by(saying[1]), told_by(saying[2]))
    return EMPTY


def holds(shape, letter):
    """Whether a letter is in a set."""
    left, low, middle, right = shape
    if letter < low:
        return left[letter % len(left)] == "1"
    if letter < low + len(middle):
        return middle[letter - low] == "1"
    return right[letter % len(right)] == "1"


def first_from(shape, start):
    """The letter of a set from a number on that is nearest to it, None where there is none."""
    left, low, middle, right = shape
    behind = low + len(middle)
    if start < low:
        at = stretch(left, start, min(low, start + ROUND)).find("1")
        if at >= 0:
            return start + at
        start = low
    if start < behind:
        at = middle.find("1", start - low)
        if at >= 0:
            return low + at
        start = behind
    at = stretch(right, start, start + ROUND).find("1")
    return start + at if at >= 0 else None


def mirrored(shape):
    """The set with -n for each letter n, told like a shape, though not always by the only one."""
    left, low, middle, right = shape
    behind = low + len(middle)
    return (right[0] + right[:0:-1], 1 - behind, middle[::-1], left[0] + left[:0:-1])


def least_in(shape):
    """The least letter of a set, None where it is empty."""
    above = first_from(shape, 0)
    below = first_from(mirrored(shape), 1)
    # Of one size the letter above 0 is the lesser one.
    if below is None or (above is not None and above <= below):
        return above
    return -below


def ones_below(text, letter):
    """How many letters from 0 on and below a letter a left or right tells, less than 0 of one below 0."""
    rounds = letter // len(text)
    return rounds * text.count("1") + text[:letter % len(text)].count("1")


def ones_between(text, first, behind):
    """How many letters from first on and below behind a left or right tells."""
    if behind <= first:
        return 0
    return ones_below(text, behind) - ones_below(text, first)


def count_in(shape, first, last):
    """How many letters of a set there are from one number up to another, both counted."""
    left, low, middle, right = shape
    behind = low + len(middle)
    ahead = ones_between(left, first, min(last + 1, low))
    within = middle[max(first - low, 0):max(last + 1 - low, 0)].count("1")
    return ahead + within + ones_between(right, max(first, behind), last + 1)


def is_signs(thing):
    """Whether a thing is a text of the signs `0` and `1`."""
    return isinstance(thing, str) and thing.strip("01") == ""


def is_side(thing):
    """Whether a thing is a text that may be left or right."""
    return is_signs(thing) and thing != "" and ROUND % len(thing) == 0


def is_shape(thing):
    """Whether a thing, of anything, is a shape."""
    if not isinstance(thing, tuple) or len(thing) != 4:
        return False
    left, low, middle, right = thing
    if not (is_side(left) and is_whole(low) and is_signs(middle) and is_side(right)):
        return False
    return trimmed(left, low, middle, right) == thing


def is_guard(thing):
    """Whether a thing, of anything, is a guard: a saying or a shape."""
    return is_saying(thing) or is_shape(thing)


def guard_shape(guard):
    """The shape of what is known to be a guard."""
    return told_by(guard) if is_saying(guard) else guard


def ask_shape(thing):
    """Refuse what is no shape."""
    if not is_shape(thing):
        raise NoShape()


def ask_letter(thing):
    """Refuse what is no letter."""
    if not is_whole(thing):
        raise NoLetter()


def shape_of(guard):
    """The shape of a guard."""
    if not is_guard(guard):
        raise NoGuard()
    return guard_shape(guard)


def has_letter(shape, letter):
    """Whether a letter is in a shape's set."""
    ask_shape(shape)
    ask_letter(letter)
    return holds(shape, letter)


def all_others(shape):
    """The shape of all other letters."""
    ask_shape(shape)
    return outside(shape)


def in_both(one, other):
    """The shape of the letters in both of two."""
    ask_shape(one)
    ask_shape(other)
    return meeting(one, other)


def in_either(one, other):
    """The shape of the letters in one of two."""
    ask_shape(one)
    ask_shape(other)
    return joining(one, other)


def moved_on(shape, by):
    """The shape of the letters of a set each made greater by a number."""
    ask_shape(shape)
    if not is_whole_within(by, -MOST_MOVE, MOST_MOVE):
        raise NoLetter()
    return moved(shape, by)


def least_letter(shape):
    """The least letter of a set, None where it is empty."""
    ask_shape(shape)
    return least_in(shape)


def many_letters(shape, low, high):
    """How many letters of a set there are from low up to high, both counted, 0 where high is less."""
    ask_shape(shape)
    ask_letter(low)
    ask_letter(high)
    return count_in(shape, low, high)
