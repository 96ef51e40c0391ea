"""What several tests need: things of all kinds, sayings by chance, and sets told letter by letter."""

import itertools
import random


def deep(kind, times, core):
    """A thing with so many lists or tuples around it."""
    for _ in range(times):
        core = kind([core])
    return core


def nots(many):
    """A saying, where there are not too many, of so many tuples."""
    saying = ("all",)
    for _ in range(many - 1):
        saying = ("not", saying)
    return saying


def wide(many):
    """A saying, where there are not too many, of so many (an odd number of) tuples, none of them a not."""
    saying = ("from", 0)
    for _ in range((many - 1) // 2):
        saying = ("both", saying, ("to", 9))
    return saying


def anything():
    """Things made of whole numbers, truths, None, texts, lists, tuples and dicts, none of them a guard or a word."""
    return [
        None, True, False, 0, 1, -1, 10 ** 12 - 1, "", "0", "all", "a\tb\n", "x" * 300,
        [], {}, [0], ["all"], ["0", 0, "", "0"], [("all",)], {"all": 1}, {0: ("all",)}, {("all",): None},
        ("all",) * 2, ("any",), (None,), (True,), ((),), ([],), ({},), (("all",),), ("",), ("ALL",),
        ("0", 0, ""), ("0", 0, "", "0", "0"), ("00", 0, "", "0"), ("2", 0, "", "1"),
        deep(list, 40, 0), deep(tuple, 40, None), deep(tuple, 39, "all"), nots(40), [0] * 1999, ("x",) * 1999,
    ]


def is_number(thing):
    return type(thing) is int


def random_saying(chance, tuples):
    """A saying of at most so many tuples."""
    if tuples >= 3 and chance.random() < 0.75:
        half = chance.randint(1, tuples - 2)
        word = chance.choice(("both", "either"))
        return (word, random_saying(chance, half), random_saying(chance, tuples - 1 - half))
    if tuples >= 2 and chance.random() < 0.4:
        return ("not", random_saying(chance, tuples - 1))
    word = chance.choice(("from", "to", "rest", "rest", "from", "to", "all", "none"))
    if word in ("all", "none"):
        return (word,)
    if word == "rest":
        divisor = chance.randint(2, 6)
        return (word, divisor, chance.randrange(divisor))
    bound = chance.choice((99, -99, chance.randint(-99, 99), chance.randint(-5, 5)))
    return (word, bound)


def random_sayings(seed, many, tuples=12):
    """As many sayings, always the same ones for a seed."""
    chance = random.Random(seed)
    return [random_saying(chance, chance.randint(1, tuples)) for _ in range(many)]


def met(saying, letter):
    """Whether a letter fits, straight by the words of the document."""
    word = saying[0]
    if word == "from":
        return not letter < saying[1]
    if word == "to":
        return not letter > saying[1]
    if word == "rest":
        return (letter - saying[2]) % saying[1] == 0
    if word == "not":
        return not met(saying[1], letter)
    if word == "both":
        return met(saying[1], letter) and met(saying[2], letter)
    if word == "either":
        return met(saying[1], letter) or met(saying[2], letter)
    return {"all": True, "none": False}[word]


def told(shape, letter):
    """Whether a shape's set has a letter, straight by the words of the document."""
    left, low, middle, right = shape
    if letter < low:
        return left[letter % len(left)] == "1"
    if low <= letter < low + len(middle):
        return middle[letter - low] == "1"
    return right[letter % len(right)] == "1"


def shape_by_search(has, far=200):
    """The one shape of a set that goes round from -far and from far on, found by trying all candidates in turn."""
    def side(letters):
        for size in range(1, 61):
            by_place = {}
            if all(by_place.setdefault(n % size, has(n)) == has(n) for n in letters):
                return "".join("1" if by_place[place] else "0" for place in range(size))
        raise AssertionError("no round at the side")

    left = side(range(-far - 240, -far))
    right = side(range(far, far + 240))
    low = -far
    while low < far + 240 and has(low) == (left[low % len(left)] == "1"):
        low += 1
    if low == far + 240:
        return (left, 0, "", left)
    behind = max(low, far)
    while behind > low and has(behind - 1) == (right[(behind - 1) % len(right)] == "1"):
        behind -= 1
    return (left, low, "".join("1" if has(n) else "0" for n in range(low, behind)), right)


def by_order(letters):
    """Letters in their order: a lesser size first, of one size the one above 0."""
    return sorted(letters, key=lambda n: (abs(n), n < 0))


# With sayings, and shapes whose middles lie as near to 0, each letter leads as one of these.
LETTERS = by_order(range(-170, 171))


def random_guard(chance, tuples=4):
    """A guard: a saying, or the shape of one."""
    saying = random_saying(chance, chance.randint(1, tuples))
    return saying if chance.random() < 0.7 else shape_by_search(lambda letter: met(saying, letter))


def random_parts(chance, many, arrows, tuples=4):
    """What a machine of so many states and arrows is made of."""
    ends = tuple(sorted(chance.sample(range(many), chance.randint(0, (many + 1) // 2))))
    return many, ends, tuple((chance.randrange(many), random_guard(chance, tuples), chance.randrange(many))
                             for _ in range(arrows))


def fitting(guard, letter):
    """Whether a letter fits a guard, straight by the words of the document."""
    return told(guard, letter) if len(guard) == 4 else met(guard, letter)


def led(arrows, states, letter):
    """The states that a letter leads to from some, a rising tuple."""
    return tuple(sorted({to for state, guard, to in arrows if state in states and fitting(guard, letter)}))


def led_by(arrows, states, word):
    for letter in word:
        states = led(arrows, states, letter)
    return states


def taken(machine, word):
    """Whether a machine takes a word, straight by the words of the document."""
    return bool(set(led_by(machine.arrows, (0,), word)) & set(machine.ends))


def machine_by_search(start, lead, is_end):
    """What the sure machine of all that is come to from a start is made of, found letter by letter."""
    found, rows = [start], []
    while len(rows) < len(found):
        row = [lead(found[len(rows)], letter) for letter in LETTERS]
        for aim in row:
            if aim not in found:
                found.append(aim)
        rows.append(dict(zip(LETTERS, [found.index(aim) for aim in row])))
    arrows = []
    for state, row in enumerate(rows):
        for aim in sorted(set(row.values())):
            arrows.append((state, shape_by_search(lambda n: row[reached(n)] == aim, 108), aim))
    return len(found), tuple(at for at, thing in enumerate(found) if is_end(thing)), tuple(arrows)


def reached(letter):
    """A letter among LETTERS that leads as this one, by the same remainder by 60 where it is further off."""
    if letter > 170:
        return 110 + (letter - 110) % 60
    if letter < -170:
        return -169 + (letter + 169) % 60
    return letter


def sure_by_search(machine):
    """What a machine's sure machine is made of, found letter by letter."""
    return machine_by_search((0,), lambda states, letter: led(machine.arrows, states, letter),
                             lambda states: bool(set(states) & set(machine.ends)))


def least_by_search(machine):
    """What the least machine of one that is sure and full is made of: classes are cut till none is any more."""
    rows = [[led(machine.arrows, (state,), letter)[0] for letter in LETTERS] for state in range(machine.many)]
    classes = [int(state in machine.ends) for state in range(machine.many)]
    while True:
        marks = [(classes[state], tuple(classes[aim] for aim in rows[state])) for state in range(machine.many)]
        unlike = list(dict.fromkeys(marks))
        if len(unlike) == len(set(classes)):
            break
        classes = [unlike.index(mark) for mark in marks]
    one_of = {at: state for state, at in enumerate(classes)}
    return machine_by_search(classes[0], lambda at, letter: classes[rows[one_of[at]][LETTERS.index(letter)]],
                             lambda at: one_of[at] in machine.ends)


def renumbered(chance, parts):
    """What a machine of the same words is made of, its states numbered otherwise, its arrows in another order."""
    many, ends, arrows = parts
    names = [0] + chance.sample(range(1, many), many - 1)
    moved = [(names[state], guard, names[to]) for state, guard, to in arrows]
    return many, tuple(sorted(names[end] for end in ends)), tuple(chance.sample(moved, len(moved)))


def last_but(many, guard=("from", 0)):
    """What a machine of the words is made of whose letter at so many from the last on fits; it has 2 ** many sets."""
    arrows = [(0, ("all",), 0), (0, guard, 1)] + [(state, ("all",), state + 1) for state in range(1, many)]
    return many + 1, (many,), tuple(arrows)


def counted(many):
    """What a machine of the words is made of whose number of letters is divided by many without rest."""
    return many, (0,), tuple((state, ("all",), (state + 1) % many) for state in range(many))


def words_of(letters, most):
    """All words of some letters, of at most so many."""
    return [word for many in range(most + 1) for word in itertools.product(letters, repeat=many)]


def paths(thing, ahead=()):
    """The way to each part of a thing of tuples, at any depth, the thing itself too."""
    yield ahead
    if isinstance(thing, tuple):
        for at, part in enumerate(thing):
            yield from paths(part, ahead + (at,))


def part_at(thing, path):
    for at in path:
        thing = thing[at]
    return thing


def with_part(thing, path, part):
    """A thing of tuples with another part at one place."""
    if not path:
        return part
    at = path[0]
    return thing[:at] + (with_part(thing[at], path[1:], part),) + thing[at + 1:]


def of_wrong_kinds(thing):
    """The thing with one part, at any depth, made one of another kind, which is == to it wherever there is such a one."""
    for path in paths(thing):
        part = part_at(thing, path)
        if isinstance(part, tuple):
            others = [list(part), {at: one for at, one in enumerate(part)}, None, 0, "", (part,)]
        elif type(part) is int:
            others = [bool(part)] if part in (0, 1) else []
            others += [None, str(part), (part,), [part]]
        else:
            others = [None, 0, (part,), [part], ""]
        for other in others:
            if path or not isinstance(other, tuple):
                yield with_part(thing, path, other)


def put_otherwise_anywhere(thing):
    """The thing with one number less or greater, or one tuple with a part less, a part twice, or backward."""
    for path in paths(thing):
        part = part_at(thing, path)
        if type(part) is int:
            others = [part + 1, part - 1]
        elif isinstance(part, tuple):
            others = [part[:at] + part[at + 1:] for at in range(len(part))]
            others += [part[:at + 1] + part[at:] for at in range(len(part))] + [part[::-1]]
        else:
            others = []
        for other in others:
            if other != part:
                yield with_part(thing, path, other)


def rises(parts):
    """Whether each one is less than the next."""
    return all(part < after for part, after in zip(parts, parts[1:]))


def walk_by_search(start, lead, letters):
    """All that is come to from a start, each with the least word that leads there, found letter by letter."""
    words = {start: ()}
    found = [start]
    for thing in found:
        for letter in letters:
            aim = lead(thing, letter)
            if aim not in words:
                words[aim] = words[thing] + (letter,)
                found.append(aim)
    return words


class Equality:
    """Looks at == and != and `in`, for tests of things that have them."""

    def same(self, one, other):
        self.assertIs(one == other, True)
        self.assertIs(one != other, False)
        self.assertIn(one, [None, other])
        self.assertIn(one, (other,))

    def unlike(self, one, other):
        self.assertIs(one == other, False)
        self.assertIs(other == one, False)
        self.assertIs(one != other, True)
        self.assertNotIn(one, [None, other])
        self.assertNotIn(other, (one,))
