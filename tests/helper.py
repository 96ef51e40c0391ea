"""What several tests need: things of all kinds, sayings by chance, and sets told letter by letter."""

import random


def deep(kind, times, core):
    """A thing with so many lists or tuples around it."""
    for _ in range(times):
        core = kind([core])
    return core


def nots(many):
    """A saying, where there are not too many, of so many tuples."""
    saying = ("all",)
    for _ in range(many - 1):
        saying = ("not", saying)
    return saying


def wide(many):
    """A saying, where there are not too many, of so many (an odd number of) tuples, none of them a not."""
    saying = ("from", 0)
    for _ in range((many - 1) // 2):
        saying = ("both", saying, ("to", 9))
    return saying


def anything():
    """Things made of whole numbers, truths, None, texts, lists, tuples and dicts, none of them a guard or a word."""
    return [
        None, True, False, 0, 1, -1, 10 ** 12 - 1, "", "0", "all", "a\tb\n", "x" * 300,
        [], {}, [0], ["all"], ["0", 0, "", "0"], [("all",)], {"all": 1}, {0: ("all",)}, {("all",): None},
        ("all",) * 2, ("any",), (None,), (True,), ((),), ([],), ({},), (("all",),), ("",), ("ALL",),
        ("0", 0, ""), ("0", 0, "", "0", "0"), ("00", 0, "", "0"), ("2", 0, "", "1"),
        deep(list, 40, 0), deep(tuple, 40, None), deep(tuple, 39, "all"), nots(40), [0] * 1999, ("x",) * 1999,
    ]


def is_number(thing):
    return type(thing) is int


def random_saying(chance, tuples):
    """A saying of at most so many tuples."""
    if tuples >= 3 and chance.random() < 0.75:
        half = chance.randint(1, tuples - 2)
        word = chance.choice(("both", "either"))
        return (word, random_saying(chance, half), random_saying(chance, tuples - 1 - half))
    if tuples >= 2 and chance.random() < 0.4:
        return ("not", random_saying(chance, tuples - 1))
    word = chance.choice(("from", "to", "rest", "rest", "from", "to", "all", "none"))
    if word in ("all", "none"):
        return (word,)
    if word == "rest":
        divisor = chance.randint(2, 6)
        return (word, divisor, chance.randrange(divisor))
    bound = chance.choice((99, -99, chance.randint(-99, 99), chance.randint(-5, 5)))
    return (word, bound)


def random_sayings(seed, many, tuples=12):
    """As many sayings, always the same ones for a seed."""
    chance = random.Random(seed)
    return [random_saying(chance, chance.randint(1, tuples)) for _ in range(many)]


def met(saying, letter):
    """Whether a letter fits, straight by the words of the document."""
    word = saying[0]
    if word == "from":
        return not letter < saying[1]
    if word == "to":
        return not letter > saying[1]
    if word == "rest":
        return (letter - saying[2]) % saying[1] == 0
    if word == "not":
        return not met(saying[1], letter)
    if word == "both":
        return met(saying[1], letter) and met(saying[2], letter)
    if word == "either":
        return met(saying[1], letter) or met(saying[2], letter)
    return {"all": True, "none": False}[word]


def told(shape, letter):
    """Whether a shape's set has a letter, straight by the words of the document."""
    left, low, middle, right = shape
    if letter < low:
        return left[letter % len(left)] == "1"
    if low <= letter < low + len(middle):
        return middle[letter - low] == "1"
    return right[letter % len(right)] == "1"


def shape_by_search(has, far=200):
    """The one shape of a set that goes round from -far and from far on, found by trying all candidates in turn."""
    def side(letters):
        for size in range(1, 61):
            by_place = {}
            if all(by_place.setdefault(n % size, has(n)) == has(n) for n in letters):
                return "".join("1" if by_place[place] else "0" for place in range(size))
        raise AssertionError("no round at the side")

    left = side(range(-far - 240, -far))
    right = side(range(far, far + 240))
    low = -far
    while low < far + 240 and has(low) == (left[low % len(left)] == "1"):
        low += 1
    if low == far + 240:
        return (left, 0, "", left)
    behind = max(low, far)
    while behind > low and has(behind - 1) == (right[(behind - 1) % len(right)] == "1"):
        behind -= 1
    return (left, low, "".join("1" if has(n) else "0" for n in range(low, behind)), right)


def by_order(letters):
    """Letters in their order: a lesser size first, of one size the one above 0."""
    return sorted(letters, key=lambda n: (abs(n), n < 0))
