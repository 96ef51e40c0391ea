"""Points [2] to [5] of machines held against one another, [70] and [71]."""

import copy
import itertools
import random
import unittest

from sayarrows.alike import (
    compared, empty_paper, first_word, is_alike_paper, is_empty_paper, is_within_paper, within,
)
from sayarrows.errors import NoMachine
from sayarrows.joins import less_of, other_of
from sayarrows.least import least_of, sure_of
from sayarrows.machines import Machine, takes
from sayarrows.sayings import ordered
from sayarrows.shapes import moved_on, shape_of
from sayarrows.turners import Turner
from tests.helper import (
    LETTERS, anything, counted, last_but, led, of_wrong_kinds, put_otherwise_anywhere, random_parts, renumbered, rises,
    taken, walk_by_search, words_of,
)
from tests.test_least import TAKES_ALL, TAKES_NONE
from tests.test_machines import random_machines, refuses_machines

ALL = ("all",)
NONE = ("none",)
FROM_3 = ("from", 3)
EVEN = ("rest", 2, 0)
ODD = ("rest", 2, 1)
GREAT = 10 ** 12 - 1

EMPTY_WORD = Machine(1, (0,), ())
ONE_BIG = Machine(2, (1,), ((0, FROM_3, 1),))
BIGS = Machine(1, (0,), ((0, FROM_3, 0),))
GUESSES = Machine(2, (1,), ((0, ALL, 0), (0, EVEN, 1)))
LOOKS = Machine(2, (1,), ((0, EVEN, 1), (0, ODD, 0), (1, EVEN, 1), (1, ODD, 0)))

OF_TWO = (compared, within)
LOOKERS = (is_alike_paper, is_within_paper)


def has_end(machine, states):
    return bool(set(states) & set(machine.ends))


def lead_both(one, other):
    return lambda pair, letter: (led(one.arrows, pair[0], letter), led(other.arrows, pair[1], letter))


def by_search(one, other, is_wrong):
    """The least word to a wrong pair, or all pairs that are come to, found letter by letter."""
    words = walk_by_search(((0,), (0,)), lead_both(one, other), LETTERS)
    wrong = [words[pair] for pair in words if is_wrong(has_end(one, pair[0]), has_end(other, pair[1]))]
    return ordered(wrong)[0] if wrong else tuple(sorted(words))


def compared_by_search(one, other):
    found = by_search(one, other, lambda first, second: first != second)
    return ("alike" if ((0,), (0,)) in found else "apart", found)


def within_by_search(one, other):
    found = by_search(one, other, lambda first, second: first and not second)
    return ("within" if ((0,), (0,)) in found else "beyond", found)


def is_pairing(one, other, thing):
    """Whether what is made of tuples and numbers is a pairing, straight by the words of the document."""
    def are_states(states, machine):
        return isinstance(states, tuple) and rises(states) and set(states) <= set(range(machine.many))

    if not all(isinstance(part, tuple) and len(part) == 2 for part in thing):
        return False
    if not all(are_states(first, one) and are_states(second, other) for first, second in thing):
        return False
    lead = lead_both(one, other)
    return (rises(thing) and ((0,), (0,)) in thing
            and all(lead(pair, letter) in thing for pair in thing for letter in LETTERS))


def is_alike_by_search(one, other, thing):
    return is_pairing(one, other, thing) and all(has_end(one, a) == has_end(other, b) for a, b in thing)


def is_within_by_search(one, other, thing):
    return is_pairing(one, other, thing) and all(has_end(other, b) or not has_end(one, a) for a, b in thing)


def random_pairs(seed, many):
    """Pairs of machines: unlike ones, alike ones put otherwise, and ones of which the first goes less far."""
    chance = random.Random(seed)
    found = []
    for at in range(many):
        states = chance.randint(1, 4)
        parts = random_parts(chance, states, chance.randint(states, 3 * states), 3)
        one = Machine(*parts)
        if at % 3 == 0:
            states = chance.randint(1, 4)
            other = Machine(*random_parts(chance, states, chance.randint(states, 3 * states), 3))
        elif at % 3 == 1:
            other = Machine(*renumbered(chance, parts[:2] + (parts[2] + parts[2][:1],)))
        else:
            other = Machine(parts[0], tuple(sorted(set(parts[1]) | {chance.randrange(parts[0])})), parts[2])
        found.append((one, other))
    return found


class Compared(unittest.TestCase):
    def same(self, one, other):
        self.assertEqual(compared(one, other)[0], "alike")
        self.assertEqual(compared(other, one)[0], "alike")
        for first, second in ((one, other), (other, one)):
            told, paper = within(first, second)
            self.assertEqual(told, "within")
            self.assertEqual(paper, compared(first, second)[1])
            self.assertIs(is_alike_paper(first, second, paper), True)
            self.assertIs(is_within_paper(first, second, paper), True)

    def apart(self, one, other, word):
        self.assertEqual(compared(one, other), ("apart", word))
        self.assertEqual(compared(other, one), ("apart", word))

    def test_a_machine_with_itself(self):
        for machine in (TAKES_ALL, TAKES_NONE, EMPTY_WORD, ONE_BIG, GUESSES):
            self.same(machine, machine)
        self.assertEqual(compared(TAKES_ALL, TAKES_ALL), ("alike", (((0,), (0,)),)))
        self.assertEqual(compared(ONE_BIG, ONE_BIG), ("alike", (((), ()), ((0,), (0,)), ((1,), (1,)))))
        self.assertEqual(compared(LOOKS, LOOKS), ("alike", (((0,), (0,)), ((1,), (1,)))))

    def test_the_same_words_put_otherwise(self):
        self.same(GUESSES, LOOKS)
        self.assertEqual(compared(GUESSES, LOOKS), ("alike", (((0,), (0,)), ((0, 1), (1,)))))
        self.assertEqual(compared(LOOKS, GUESSES), ("alike", (((0,), (0,)), ((1,), (0, 1)))))
        self.same(ONE_BIG, Machine(2, (1,), ((0, ("not", ("to", 2)), 1), (0, shape_of(FROM_3), 1), (1, NONE, 0))))
        self.same(Machine(1, (0,), ((0, EVEN, 0), (0, ODD, 0))), TAKES_ALL)

    def test_no_state_on_one_side_and_on_both(self):
        lost = Machine(2, (0,), ((0, ALL, 1), (1, ALL, 1)))
        self.assertEqual(compared(EMPTY_WORD, lost), ("alike", (((), (1,)), ((0,), (0,)))))
        self.assertEqual(compared(lost, EMPTY_WORD), ("alike", (((0,), (0,)), ((1,), ()))))
        self.assertEqual(compared(EMPTY_WORD, EMPTY_WORD), ("alike", (((), ()), ((0,), (0,)))))
        self.assertEqual(compared(TAKES_NONE, Machine(1, (), ())), ("alike", (((0,), ()), ((0,), (0,)))))

    def test_that_take_no_word(self):
        for one, other in itertools.product((TAKES_NONE, Machine(1, (), ()), Machine(3, (2,), ((0, ALL, 1),))), repeat=2):
            self.same(one, other)

    def test_the_paper_rises_by_its_states(self):
        aims = (9, 2, 11, 1, 10)
        one = Machine(12, (), tuple((0, ("both", ("from", at), ("to", at)), to) for at, to in enumerate(aims)))
        told, paper = compared(one, one)
        self.assertEqual(paper, (((), ()), ((0,), (0,)), ((1,), (1,)), ((2,), (2,)), ((9,), (9,)), ((10,), (10,)),
                                 ((11,), (11,))))

    def test_only_what_is_come_to_stands_in_the_paper(self):
        one = Machine(4, (1, 3), ((0, EVEN, 1), (2, ALL, 3), (1, NONE, 2), (3, ALL, 3)))
        self.assertEqual(compared(one, one), ("alike", (((), ()), ((0,), (0,)), ((1,), (1,)))))

    def test_apart_by_the_word_of_no_letters(self):
        self.apart(TAKES_ALL, TAKES_NONE, ())
        self.apart(EMPTY_WORD, TAKES_NONE, ())
        self.apart(Machine(2, (0, 1), ((0, FROM_3, 1),)), ONE_BIG, ())

    def test_apart_by_one_letter(self):
        self.apart(EMPTY_WORD, TAKES_ALL, (0,))
        self.apart(ONE_BIG, TAKES_NONE, (3,))
        self.apart(ONE_BIG, Machine(2, (1,), ((0, ("from", 4), 1),)), (3,))
        self.apart(Machine(2, (1,), ((0, ("to", -4), 1),)), Machine(2, (1,), ((0, ("to", -5), 1),)), (-4,))
        self.apart(Machine(2, (1,), ((0, ("either", FROM_3, ("to", -3)), 1),)), TAKES_NONE, (3,))
        self.apart(Machine(2, (1,), ((0, ("either", ("from", 4), ("to", -3)), 1),)), TAKES_NONE, (-3,))

    def test_apart_by_a_longer_word(self):
        self.apart(BIGS, Machine(2, (0, 1), ((0, FROM_3, 1),)), (3, 3))
        self.apart(Machine(*counted(7)), Machine(*counted(6)), (0,) * 6)
        self.apart(Machine(*counted(40)), EMPTY_WORD, (0,) * 40)
        # Both 0, 9 and 1, 0 part them: the first letter that differs tells which is less.
        arrows = ((0, ("both", ("from", 0), ("to", 0)), 1), (0, ("both", ("from", 1), ("to", 1)), 2), (2, ALL, 3))
        self.apart(Machine(4, (3,), arrows + ((1, ("from", 9), 3),)), TAKES_NONE, (0, 9))
        self.apart(Machine(4, (3,), arrows), TAKES_NONE, (1, 0))

    def test_apart_by_a_shorter_word_of_greater_letters(self):
        one = Machine(3, (2,), ((0, ("to", 90), 1), (1, ALL, 2), (0, ("from", 91), 2)))
        self.apart(one, TAKES_NONE, (91,))

    def test_apart_by_a_great_letter(self):
        far = shape_of(FROM_3)
        for _ in range(15):
            far = moved_on(far, 9999)
        further = moved_on(far, 1)
        self.apart(Machine(2, (1,), ((0, far, 1),)), Machine(2, (1,), ((0, further, 1),)), (3 + 15 * 9999,))
        self.same(Machine(2, (1,), ((0, far, 1),)), Machine(2, (1,), ((0, far, 1), (0, further, 1))))

    def test_within_where_nothing_is_taken(self):
        for other in (TAKES_NONE, TAKES_ALL, EMPTY_WORD, ONE_BIG, GUESSES):
            self.assertEqual(within(TAKES_NONE, other)[0], "within")
        self.assertEqual(within(TAKES_NONE, ONE_BIG), ("within", (((0,), ()), ((0,), (0,)), ((0,), (1,)))))

    def test_within_and_beyond(self):
        self.assertEqual(within(ONE_BIG, BIGS), ("within", (((), ()), ((), (0,)), ((0,), (0,)), ((1,), (0,)))))
        self.assertEqual(within(BIGS, ONE_BIG), ("beyond", ()))
        self.assertEqual(within(TAKES_ALL, BIGS), ("beyond", (0,)))
        self.assertEqual(within(BIGS, TAKES_ALL)[0], "within")
        # Just the first takes 4, just the second takes 1.
        one = Machine(2, (1,), ((0, ("from", 4), 1),))
        other = Machine(2, (1,), ((0, ("to", 1), 1), (0, ("from", 6), 1)))
        self.assertEqual(within(one, other), ("beyond", (4,)))
        self.assertEqual(within(other, one), ("beyond", (0,)))
        self.assertEqual(compared(one, other), ("apart", (0,)))

    def test_by_search(self):
        told = {"alike": 0, "apart": 0, "within": 0, "beyond": 0}
        for one, other in random_pairs(700, 90):
            with self.subTest(one=one, other=other):
                for first, second in ((one, other), (other, one)):
                    self.assertEqual(compared(first, second), compared_by_search(first, second))
                    self.assertEqual(within(first, second), within_by_search(first, second))
                    told[compared(first, second)[0]] += 1
                    told[within(first, second)[0]] += 1
        self.assertGreater(min(told.values()), 20, told)

    def test_the_word_is_the_least_of_all(self):
        for one, other in random_pairs(701, 45):
            told, word = compared(one, other)
            if told == "apart" and len(word) < 3:
                letters = sorted({0, 1, -1, 2, -2} | set(word), key=lambda n: (abs(n), n < 0))
                words = [w for w in ordered(words_of(letters, 2)) if taken(one, w) != taken(other, w)]
                self.assertEqual(words[0], word)

    def test_just_one_of_both_is_there(self):
        machines = random_machines(702, 12, 3) + [TAKES_ALL, TAKES_NONE, EMPTY_WORD, GUESSES, LOOKS]
        for one, other in itertools.product(machines, repeat=2):
            told, what = compared(one, other)
            alike = least_of(one) == least_of(other)
            self.assertEqual(told, "alike" if alike else "apart")
            self.assertIs(is_alike_paper(one, other, what), alike)
            if told == "apart":
                self.assertNotEqual(takes(one, what), takes(other, what))
            told, what = within(one, other)
            self.assertEqual(told == "within", first_word(less_of(one, other)) is None)
            self.assertIs(is_within_paper(one, other, what), told == "within")
            if told == "beyond":
                self.assertEqual(what, first_word(less_of(one, other)))

    def test_hangs_on_the_words_alone(self):
        chance = random.Random(703)
        for one, other in random_pairs(704, 40):
            again = Machine(*renumbered(chance, (one.many, one.ends, one.arrows)))
            for function in OF_TWO:
                told, what = function(one, other)
                for put in (again, least_of(one), sure_of(one)):
                    self.assertEqual(function(put, other)[0], told)
                    if told in ("apart", "beyond"):
                        self.assertEqual(function(put, other), (told, what))

    def test_many_sets(self):
        many = Machine(*last_but(10))
        told, paper = compared(many, many)
        self.assertEqual((told, len(paper)), ("alike", 1024))
        self.assertIs(is_alike_paper(many, many, paper), True)
        self.assertIs(is_within_paper(many, many, paper), True)
        self.assertIs(is_alike_paper(many, many, paper[:-1]), False)
        self.assertEqual(compared(many, Machine(*last_but(9))), ("apart", (0,) + (0,) * 8))

    def test_refused(self):
        turner = Turner(1, (), ())
        for function in OF_TWO:
            refuses_machines(self, lambda thing: function(thing, ONE_BIG))
            refuses_machines(self, lambda thing: function(ONE_BIG, thing))
            refuses_machines(self, lambda thing: function(thing, None))
            self.assertRaises(NoMachine, function, turner, ONE_BIG)
            self.assertRaises(NoMachine, function, ONE_BIG, turner)
        for function in LOOKERS:
            refuses_machines(self, lambda thing: function(thing, ONE_BIG, ()))
            refuses_machines(self, lambda thing: function(ONE_BIG, thing, ()))
            refuses_machines(self, lambda thing: function(thing, None, None))
            self.assertRaises(NoMachine, function, turner, ONE_BIG, ())

    def test_by_name(self):
        self.assertEqual(compared(other=TAKES_ALL, one=ONE_BIG), ("apart", ()))
        self.assertEqual(within(other=TAKES_ALL, one=ONE_BIG)[0], "within")
        self.assertIs(is_alike_paper(thing=(((0,), (0,)),), other=TAKES_ALL, one=TAKES_ALL), True)
        self.assertIs(is_within_paper(thing=(((0,), (0,)),), other=TAKES_ALL, one=TAKES_NONE), True)

    def test_the_same_again_and_nothing_is_changed(self):
        for one, other in random_pairs(705, 12):
            before = copy.deepcopy((one, other))
            for function in OF_TWO:
                self.assertEqual(function(one, other), function(one, other))
            paper = within(one, other)[1]
            self.assertEqual([is_within_paper(one, other, paper) for _ in range(2)], [within(one, other)[0] == "within"] * 2)
            self.assertEqual((one, other), before)


def closed(one, other, pairs):
    """The pairs, and all that is come to from them, rising."""
    lead = lead_both(one, other)
    found = list(pairs)
    for pair in found:
        for letter in LETTERS:
            if lead(pair, letter) not in found:
                found.append(lead(pair, letter))
    return tuple(sorted(set(found)))


class Lookers(unittest.TestCase):
    def look(self, one, other, thing):
        """Both lookers tell what is so, straight by the words of the document."""
        self.assertIs(is_alike_paper(one, other, thing), is_alike_by_search(one, other, thing), thing)
        self.assertIs(is_within_paper(one, other, thing), is_within_by_search(one, other, thing), thing)

    def test_more_tuples_that_are_still_one(self):
        one = Machine(3, (1, 2), ((0, FROM_3, 1), (2, ALL, 2)))
        told, paper = compared(one, one)
        self.assertEqual(len(paper), 3)
        for more in (((2,), (2,)), ((1,), (2,)), ((0, 1), (0, 1)), ((1, 2), (1, 2)), ((0, 1, 2), (0, 1, 2))):
            thing = closed(one, one, paper + (more,))
            self.assertGreater(len(thing), len(paper))
            self.look(one, one, thing)
        self.assertIs(is_alike_paper(one, one, closed(one, one, paper + (((2,), (2,)),))), True)
        less = closed(one, one, paper + (((), (1,)),))
        self.assertEqual((is_alike_paper(one, one, less), is_within_paper(one, one, less)), (False, True))
        more = closed(one, one, paper + (((1,), ()),))
        self.assertEqual((is_alike_paper(one, one, more), is_within_paper(one, one, more)), (False, False))

    def test_closed_by_any_pairs(self):
        chance = random.Random(710)
        told = 0
        for one, other in random_pairs(711, 40):
            more = [tuple(tuple(sorted(chance.sample(range(m.many), chance.randint(0, m.many)))) for m in (one, other))
                    for _ in range(chance.randint(0, 2))]
            thing = closed(one, other, [((0,), (0,))] + more)
            self.look(one, other, thing)
            told += is_within_paper(one, other, thing)
        self.assertGreater(told, 8)

    def test_one_tuple_less(self):
        for one, other in ((GUESSES, LOOKS), (ONE_BIG, ONE_BIG), (EMPTY_WORD, EMPTY_WORD), (TAKES_NONE, ONE_BIG)):
            told, paper = within(one, other)
            self.assertIs(is_within_paper(one, other, paper), True)
            for at in range(len(paper)):
                less = paper[:at] + paper[at + 1:]
                self.assertIs(is_alike_paper(one, other, less), False)
                self.assertIs(is_within_paper(one, other, less), False)

    def test_otherwise_at_any_depth(self):
        for one, other in ((GUESSES, LOOKS), (ONE_BIG, ONE_BIG), (EMPTY_WORD, EMPTY_WORD), (ONE_BIG, BIGS)):
            paper = within(one, other)[1]
            for thing in put_otherwise_anywhere(paper):
                self.look(one, other, thing)

    def test_things_of_other_kinds_within(self):
        for one, other in ((GUESSES, LOOKS), (ONE_BIG, ONE_BIG), (EMPTY_WORD, EMPTY_WORD)):
            for thing in of_wrong_kinds(compared(one, other)[1]):
                self.assertIs(is_alike_paper(one, other, thing), False, thing)
                self.assertIs(is_within_paper(one, other, thing), False, thing)

    def test_truths_in_the_place_of_numbers(self):
        self.assertIs(is_alike_paper(TAKES_ALL, TAKES_ALL, (((False,), (0,)),)), False)
        self.assertIs(is_alike_paper(LOOKS, LOOKS, (((0,), (0,)), ((1,), (True,)))), False)
        self.assertIs(is_alike_paper(LOOKS, LOOKS, (((0,), (0,)), ((1,), (1,)))), True)

    def test_not_rising_and_twice(self):
        paper = compared(LOOKS, LOOKS)[1]
        for thing in (paper[::-1], paper + paper, paper + paper[:1], paper[:1] + paper, paper[-1:] + paper):
            self.assertIs(is_alike_paper(LOOKS, LOOKS, thing), False)
            self.assertIs(is_within_paper(LOOKS, LOOKS, thing), False)
        self.assertIs(is_alike_paper(GUESSES, LOOKS, (((0,), (0,)), ((1, 0), (1,)))), False)
        self.assertIs(is_alike_paper(GUESSES, LOOKS, (((0,), (0,)), ((0, 0, 1), (1,)))), False)

    def test_the_pairs_of_the_other_order(self):
        paper = compared(GUESSES, LOOKS)[1]
        turned = tuple(sorted((second, first) for first, second in paper))
        self.assertIs(is_alike_paper(GUESSES, LOOKS, turned), False)
        self.assertIs(is_alike_paper(LOOKS, GUESSES, paper), False)
        self.assertIs(is_alike_paper(LOOKS, GUESSES, turned), True)

    def test_states_beyond(self):
        paper = compared(LOOKS, LOOKS)[1]
        for more in (((2,), (2,)), ((-1,), (-1,)), ((0,), (2,)), ((40,), (0,)), ((GREAT,), ())):
            self.assertIs(is_alike_paper(LOOKS, LOOKS, tuple(sorted(paper + (more,)))), False)

    def test_anything(self):
        told = [compared(ONE_BIG, ONE_BIG), within(ONE_BIG, BIGS), ((), ()), (((0,), (0,)), None), (0, 1), "alike"]
        for thing in anything() + told:
            for looker in LOOKERS:
                self.assertIs(looker(ONE_BIG, ONE_BIG, thing), False)
                self.assertIs(looker(ONE_BIG, BIGS, thing), False)

    def test_2000_parts(self):
        wide = tuple(((0,), (0,)) for _ in range(399))
        self.assertIs(is_alike_paper(TAKES_ALL, TAKES_ALL, wide), False)


def first_by_search(machine):
    words = walk_by_search((0,), lambda states, letter: led(machine.arrows, states, letter), LETTERS)
    return ([words[states] for states in words if has_end(machine, states)] or [None])[0]


def is_empty_by_search(machine, thing):
    """Whether a tuple of numbers is an empty paper, straight by the words of the document."""
    return (rises(thing) and set(thing) <= set(range(machine.many)) and 0 in thing and not has_end(machine, thing)
            and all(set(led(machine.arrows, thing, letter)) <= set(thing) for letter in LETTERS))


class FirstWord(unittest.TestCase):
    def test_the_word_of_no_letters(self):
        for machine in (TAKES_ALL, EMPTY_WORD, BIGS, Machine(40, (0, 39), ())):
            self.assertEqual(first_word(machine), ())
            self.assertIsNone(empty_paper(machine))

    def test_one_letter(self):
        self.assertEqual(first_word(ONE_BIG), (3,))
        self.assertEqual(first_word(Machine(2, (1,), ((0, ("to", -3), 1),))), (-3,))
        self.assertEqual(first_word(Machine(2, (1,), ((0, ("to", -3), 1), (0, FROM_3, 1)))), (3,))
        self.assertEqual(first_word(GUESSES), (0,))

    def test_none(self):
        nothing = ("both", ("from", 4), ("to", 3))
        for parts, paper in (
            ((1, (), ()), (0,)), ((3, (), ((0, ALL, 2), (2, EVEN, 0))), (0, 2)), ((3, (2,), ((0, ALL, 1),)), (0, 1)),
            ((2, (1,), ((0, NONE, 1), (0, nothing, 1))), (0,)), ((3, (1,), ((0, EVEN, 2), (2, nothing, 1))), (0, 2)),
            ((40, (38,), ((0, ALL, 39), (39, FROM_3, 5))), (0, 5, 39)),
        ):
            machine = Machine(*parts)
            self.assertIsNone(first_word(machine))
            self.assertEqual(empty_paper(machine), paper)
            self.assertIs(is_empty_paper(machine, paper), True)

    def test_two_states_that_share_their_word(self):
        # 0 leads to 1 and to 2; from 1 on by 5, from 2 on by 4.
        arrows = ((0, ALL, 1), (0, ALL, 2), (1, ("from", 5), 3), (2, ("from", 4), 4))
        self.assertEqual(first_word(Machine(5, (3, 4), arrows)), (0, 4))
        self.assertEqual(first_word(Machine(5, (3,), arrows)), (0, 5))
        both = arrows + ((3, ALL, 0), (4, FROM_3, 3))
        self.assertEqual(first_word(Machine(5, (3,), both[:4] + ((2, ("from", 4), 3),))), (0, 4))

    def test_a_way_that_begins_greater_but_ends_sooner(self):
        machine = Machine(3, (2,), ((0, ("to", 90), 1), (1, ALL, 2), (0, ("from", 91), 2)))
        self.assertEqual(first_word(machine), (91,))

    def test_a_long_word(self):
        arrows = tuple((state, FROM_3 if state % 2 else ("to", -5), state + 1) for state in range(39))
        self.assertEqual(first_word(Machine(40, (39,), arrows)), ((-5, 3) * 20)[:39])

    def test_by_search(self):
        found = 0
        for machine in random_machines(720, 160):
            word = first_word(machine)
            self.assertEqual(word, first_by_search(machine))
            self.assertEqual(empty_paper(machine) is None, word is not None)
            if word is None:
                self.assertIs(is_empty_by_search(machine, empty_paper(machine)), True)
                self.assertEqual(compared(machine, TAKES_NONE)[0], "alike")
            else:
                self.assertEqual(compared(machine, TAKES_NONE), ("apart", word))
                found += len(word) > 0
        self.assertGreater(found, 15)

    def test_hangs_on_the_words_alone(self):
        chance = random.Random(721)
        for machine in random_machines(722, 40):
            again = Machine(*renumbered(chance, (machine.many, machine.ends, machine.arrows)))
            self.assertEqual(first_word(again), first_word(machine))
            self.assertEqual(first_word(least_of(machine)), first_word(machine))
            self.assertEqual(first_word(other_of(other_of(machine))), first_word(machine))

    def test_every_set_of_states(self):
        for machine in random_machines(723, 40, 4) + [Machine(4, (2,), ((0, EVEN, 1), (3, NONE, 2), (1, ALL, 0)))]:
            for many in range(machine.many + 1):
                for thing in itertools.permutations(range(machine.many), many):
                    self.assertIs(is_empty_paper(machine, thing), is_empty_by_search(machine, thing), (machine, thing))

    def test_looked_at(self):
        machine = Machine(5, (4,), ((0, EVEN, 2), (2, FROM_3, 0), (3, ALL, 0), (1, ALL, 4), (2, NONE, 4)))
        self.assertEqual(empty_paper(machine), (0, 2))
        for thing in ((0, 2), (0, 2, 3)):
            self.assertIs(is_empty_paper(machine, thing), True)
        wrong = [(0,), (2,), (), (0, 1, 2), (0, 2, 4), (2, 3), (2, 0), (0, 2, 2), (0, 0, 2), [0, 2], (False, 2), (0, 2, 5)]
        wrong += [(0, 2, -1), (-1, 0, 2), (0, 2, True), (0, "2"), ((0,), (2,)), (0, [2]), {0: 1, 2: 1}, "02", None]
        for thing in wrong + anything():
            self.assertIs(is_empty_paper(machine, thing), False, thing)
        for thing in of_wrong_kinds((0, 2)):
            self.assertIs(is_empty_paper(machine, thing), False, thing)
        self.assertIs(is_empty_paper(Machine(2, (), ((0, ALL, 1),)), (0, True)), False)
        self.assertIs(is_empty_paper(Machine(2, (), ((0, ALL, 1),)), (0, 1)), True)

    def test_where_there_is_none(self):
        for machine in (TAKES_ALL, ONE_BIG, GUESSES):
            for thing in ((0,), (0, 1), (1,), ()):
                self.assertIs(is_empty_paper(machine, thing), False)

    def test_refused_and_by_name(self):
        for function in (first_word, empty_paper, lambda thing: is_empty_paper(thing, ()),
                         lambda thing: is_empty_paper(thing, None)):
            refuses_machines(self, function)
            self.assertRaises(NoMachine, function, Turner(1, (), ()))
        self.assertEqual(first_word(machine=ONE_BIG), (3,))
        self.assertEqual(empty_paper(machine=TAKES_NONE), (0,))
        self.assertIs(is_empty_paper(thing=(0,), machine=TAKES_NONE), True)


if __name__ == "__main__":
    unittest.main()
