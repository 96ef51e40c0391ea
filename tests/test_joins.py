"""Points [2] to [5] of machines put together, and [60]."""

import copy
import random
import unittest

from sayarrows.errors import NoMachine, TooMany
from sayarrows.joins import again_of, backward_of, behind_of, both_of, either_of, less_of, other_of
from sayarrows.least import least_of
from sayarrows.machines import Machine, takes
from tests.helper import LETTERS, counted, last_but, random_parts, renumbered, taken, words_of
from tests.test_least import TAKES_ALL, TAKES_NONE, refuses_too_many, told_or_refused
from tests.test_machines import refuses_machines

ALL = ("all",)
FROM_3 = ("from", 3)
EVEN = ("rest", 2, 0)
EVERY = ("1", 0, "", "1")

OF_TWO = (both_of, either_of, less_of, behind_of)
OF_ONE = (other_of, again_of, backward_of)

EMPTY_WORD = Machine(1, (0,), ())
ONE_BIG = Machine(2, (1,), ((0, FROM_3, 1),))
BIGS = Machine(1, (0,), ((0, FROM_3, 0),))
EVENS = Machine(2, (1,), ((0, EVEN, 1), (1, EVEN, 1)))
BIG_EVEN = Machine(3, (2,), ((0, FROM_3, 1), (1, EVEN, 2)))
GUESSES = Machine(3, (2,), ((0, ALL, 0), (0, FROM_3, 1), (1, ALL, 2)))
# Each kind that the document tells apart: that take the word of no letters or don't, that take nothing, that take all.
KINDS = (TAKES_NONE, TAKES_ALL, EMPTY_WORD, ONE_BIG, BIGS, EVENS, BIG_EVEN, GUESSES,
         Machine(3, (1,), ((0, ALL, 0),)), Machine(2, (0, 1), ((0, EVEN, 1), (1, ALL, 0), (0, ("rest", 2, 1), 1))),
         Machine(3, (0, 2), ((0, ("to", 2), 1), (1, ("to", 2), 2), (2, FROM_3, 0))))

WORDS = words_of([0, 1, 3, 4], 4)


def splits(word):
    return [(word[:at], word[at:]) for at in range(len(word) + 1)]


def in_pieces(words, word):
    """Whether a word is made of any number of words, none too."""
    return word == () or any(words[ahead] and in_pieces(words, behind) for ahead, behind in splits(word) if ahead)


def expected_of_two(function, one, other, word):
    """Whether what is put together of two takes a word, by which words each of them takes."""
    if function == both_of:
        return one[word] and other[word]
    if function == either_of:
        return one[word] or other[word]
    if function == less_of:
        return one[word] and not other[word]
    return any(one[ahead] and other[behind] for ahead, behind in splits(word))


def expected_of_one(function, words, word):
    if function == other_of:
        return not words[word]
    if function == again_of:
        return in_pieces(words, word)
    return words[word[::-1]]


def random_pair(chance):
    return [Machine(*random_parts(chance, states, chance.randint(states, 3 * states)))
            for states in (chance.randint(1, 4), chance.randint(1, 4))]


class Joins(unittest.TestCase):
    def holds(self, told, words, expected):
        """What was told takes the words that it should, and is a least machine."""
        for word in words:
            self.assertIs(takes(told, word), bool(expected(word)), word)
        self.assertEqual(least_of(told), told)

    def look_at_two(self, one, other, words):
        first, second = ({word: taken(machine, word) for word in words} for machine in (one, other))
        for function in OF_TWO:
            with self.subTest(function=function.__name__, one=one, other=other):
                self.holds(function(one, other), words, lambda word: expected_of_two(function, first, second, word))

    def look_at_one(self, machine, words):
        known = {word: taken(machine, word) for word in words}
        for function in OF_ONE:
            with self.subTest(function=function.__name__, machine=machine):
                self.holds(function(machine), words, lambda word: expected_of_one(function, known, word))

    def test_of_two_of_each_kind(self):
        for one in KINDS:
            for other in KINDS:
                self.look_at_two(one, other, words_of([0, 1, 3, 4], 3))

    def test_of_one_of_each_kind(self):
        for machine in KINDS:
            self.look_at_one(machine, WORDS)

    def test_by_chance(self):
        chance = random.Random(600)
        many = 0
        for _ in range(40):
            one, other = random_pair(chance)
            words = words_of([0, 1, -1] + chance.sample(LETTERS, 2), 3)
            try:
                self.look_at_two(one, other, words)
                self.look_at_one(one, words)
                many += 1
            except TooMany as error:
                self.assertGreater(error.many, error.most)
        self.assertGreater(many, 30)

    def test_least_machines_as_told(self):
        big, small = ("0", 3, "", "1"), ("1", 3, "", "0")
        self.assertEqual(both_of(BIGS, Machine(*counted(2))),
                         Machine(3, (0,), ((0, small, 1), (0, big, 2), (1, EVERY, 1), (2, big, 0), (2, small, 1))))
        self.assertEqual(other_of(EMPTY_WORD), Machine(2, (1,), ((0, EVERY, 1), (1, EVERY, 1))))
        self.assertEqual(again_of(ONE_BIG), Machine(2, (0,), ((0, big, 0), (0, small, 1), (1, EVERY, 1))))
        self.assertEqual(backward_of(Machine(3, (2,), ((0, FROM_3, 1), (1, ALL, 2)))),
                         Machine(4, (3,), ((0, EVERY, 1), (1, small, 2), (1, big, 3), (2, EVERY, 2), (3, EVERY, 2))))
        self.assertEqual(behind_of(ONE_BIG, EMPTY_WORD), least_of(ONE_BIG))
        self.assertEqual(either_of(ONE_BIG, EMPTY_WORD),
                         Machine(3, (0, 2), ((0, small, 1), (0, big, 2), (1, EVERY, 1), (2, EVERY, 1))))
        self.assertEqual(less_of(BIGS, EMPTY_WORD), least_of(Machine(2, (1,), ((0, FROM_3, 1), (1, FROM_3, 1)))))

    def test_that_take_nothing(self):
        for machine in KINDS:
            least = least_of(machine)
            self.assertEqual(both_of(machine, TAKES_NONE), TAKES_NONE)
            self.assertEqual(both_of(TAKES_NONE, machine), TAKES_NONE)
            self.assertEqual(either_of(machine, TAKES_NONE), least)
            self.assertEqual(either_of(TAKES_NONE, machine), least)
            self.assertEqual(less_of(machine, TAKES_NONE), least)
            self.assertEqual(less_of(TAKES_NONE, machine), TAKES_NONE)
            self.assertEqual(less_of(machine, machine), TAKES_NONE)
            self.assertEqual(behind_of(machine, TAKES_NONE), TAKES_NONE)
            self.assertEqual(behind_of(TAKES_NONE, machine), TAKES_NONE)
        self.assertEqual(other_of(TAKES_NONE), TAKES_ALL)
        self.assertEqual(again_of(TAKES_NONE), least_of(EMPTY_WORD))
        self.assertEqual(backward_of(TAKES_NONE), TAKES_NONE)

    def test_that_take_all(self):
        for machine in KINDS:
            least = least_of(machine)
            self.assertEqual(both_of(machine, TAKES_ALL), least)
            self.assertEqual(either_of(TAKES_ALL, machine), TAKES_ALL)
            self.assertEqual(less_of(machine, TAKES_ALL), TAKES_NONE)
            self.assertEqual(less_of(TAKES_ALL, machine), other_of(machine))
        self.assertEqual(other_of(TAKES_ALL), TAKES_NONE)
        self.assertEqual(again_of(TAKES_ALL), TAKES_ALL)
        self.assertEqual(backward_of(TAKES_ALL), TAKES_ALL)
        self.assertEqual(behind_of(TAKES_ALL, TAKES_ALL), TAKES_ALL)
        self.assertEqual(behind_of(EMPTY_WORD, TAKES_ALL), TAKES_ALL)

    def test_what_holds_among_them(self):
        chance = random.Random(601)
        for _ in range(40):
            one, other = random_pair(chance)
            try:
                self.assertEqual(other_of(other_of(one)), least_of(one))
                self.assertEqual(backward_of(backward_of(one)), least_of(one))
                self.assertEqual(less_of(one, other), both_of(one, other_of(other)))
                self.assertEqual(either_of(one, other), other_of(both_of(other_of(one), other_of(other))))
                self.assertEqual(again_of(again_of(one)), again_of(one))
                self.assertEqual(behind_of(again_of(one), again_of(one)), again_of(one))
                self.assertEqual(behind_of(one, other), backward_of(behind_of(backward_of(other), backward_of(one))))
                self.assertEqual(again_of(backward_of(one)), backward_of(again_of(one)))
            except TooMany as error:
                self.assertGreater(error.many, 40)

    def test_what_is_told_hangs_on_the_words_alone(self):
        chance = random.Random(602)
        for _ in range(30):
            pair = random_pair(chance)
            other_pair = [Machine(*renumbered(chance, (machine.many, machine.ends, machine.arrows))) for machine in pair]
            for function in OF_TWO:
                self.assertEqual(told_or_refused(lambda two: function(*two), pair),
                                 told_or_refused(lambda two: function(*two), other_pair))
            for function in OF_ONE:
                self.assertEqual(told_or_refused(function, pair[0]), told_or_refused(function, other_pair[0]))

    def test_a_machine_of_many_states_that_takes_few_words(self):
        # All forty states lead to one another, though what is told of them is little.
        arrows = tuple((state, FROM_3, to) for state in range(40) for to in (state, (state * 7 + 3) % 40, 39 - state))
        crowd = Machine(40, tuple(range(40)), arrows)
        self.assertEqual(least_of(crowd), least_of(BIGS))
        self.assertEqual(behind_of(crowd, crowd), least_of(BIGS))
        self.assertEqual(again_of(crowd), least_of(BIGS))
        self.assertEqual(backward_of(crowd), least_of(BIGS))

    def test_a_machine_that_may_be_begun_again_and_again(self):
        # Each place where it was begun is another state of forty, though all of them take the same.
        chain = Machine(40, tuple(range(40)), tuple((state, ALL, min(state + 1, 39)) for state in range(40)))
        self.assertEqual(least_of(chain), TAKES_ALL)
        ends_even = Machine(2, (1,), ((0, ALL, 0), (0, EVEN, 1)))
        self.assertEqual(behind_of(ends_even, chain), behind_of(ends_even, TAKES_ALL))
        self.assertEqual(again_of(both_of(chain, ends_even)), again_of(ends_even))

    def test_forty_states(self):
        self.assertEqual(both_of(Machine(*counted(8)), Machine(*counted(5))), least_of(Machine(*counted(40))))
        self.assertEqual(other_of(Machine(*counted(40))).ends, tuple(range(1, 40)))

    def test_too_many(self):
        seven, six, last = Machine(*counted(7)), Machine(*counted(6)), Machine(*last_but(6))
        refuses_too_many(self, 42, both_of, seven, six)
        refuses_too_many(self, 42, either_of, seven, six)
        refuses_too_many(self, 42, less_of, seven, six)
        refuses_too_many(self, 64, other_of, last)
        refuses_too_many(self, 64, again_of, last)
        then_five = Machine(7, (6,), ((0, ("from", 0), 1),) + tuple((at, ALL, at + 1) for at in range(1, 6)))
        refuses_too_many(self, 64, behind_of, TAKES_ALL, then_five)
        five_then = Machine(7, (6,), tuple((at, ALL, at + 1) for at in range(5)) + ((5, ("from", 0), 6), (6, ALL, 6)))
        refuses_too_many(self, 64, backward_of, five_then)
        self.assertEqual(backward_of(Machine(6, (5,), ((0, ALL, 1), (1, ALL, 2), (2, ALL, 3), (3, ALL, 4),
                                                       (4, ("from", 0), 5), (5, ALL, 5)))),
                         least_of(Machine(*last_but(5))))

    def test_told_of_machines_whose_own_least_ones_are_refused(self):
        last = Machine(*last_but(7))
        self.assertEqual(both_of(last, TAKES_NONE), TAKES_NONE)
        self.assertEqual(less_of(last, last), TAKES_NONE)
        self.assertEqual(either_of(last, TAKES_ALL), TAKES_ALL)
        self.assertEqual(behind_of(last, TAKES_ALL).many, 8)
        self.assertEqual(backward_of(last).many, 9)

    def test_refused(self):
        for function in OF_TWO:
            refuses_machines(self, lambda thing: function(thing, EVENS))
            refuses_machines(self, lambda thing: function(EVENS, thing))
            self.assertRaises(NoMachine, function, None, None)
        for function in OF_ONE:
            refuses_machines(self, function)

    def test_refused_ahead_of_too_many(self):
        for function in OF_TWO:
            self.assertRaises(NoMachine, function, Machine(*last_but(7)), None)

    def test_by_name(self):
        for function in OF_TWO:
            self.assertEqual(function(other=EVENS, one=BIG_EVEN), function(BIG_EVEN, EVENS))
        for function in OF_ONE:
            self.assertEqual(function(machine=BIG_EVEN), function(BIG_EVEN))

    def test_the_same_again_and_nothing_is_changed(self):
        for machine in KINDS:
            before = copy.deepcopy(machine)
            for function in OF_TWO:
                self.assertEqual(function(machine, BIG_EVEN), function(machine, BIG_EVEN))
            for function in OF_ONE:
                self.assertEqual(function(machine), function(machine))
            self.assertEqual(machine, before)


if __name__ == "__main__":
    unittest.main()
