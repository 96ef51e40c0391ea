"""Points [2] to [5] of whys, and [80]."""

import copy
import itertools
import random
import unittest

from sayarrows.errors import NoMachine
from sayarrows.least import least_of, sure_of
from sayarrows.machines import Machine, lacking_at, unsure_at
from sayarrows.turners import Turner
from sayarrows.why import is_why, why_least
from tests.helper import (
    LETTERS, anything, counted, last_but, led, led_by, of_wrong_kinds, put_otherwise_anywhere, renumbered,
    walk_by_search,
)
from tests.test_least import TAKES_ALL, TAKES_NONE, random_groups, told_or_refused
from tests.test_machines import refuses_machines

ALL = ("all",)
NONE = ("none",)
FROM_3 = ("from", 3)
TO_2 = ("to", 2)
EVEN = ("rest", 2, 0)
ODD = ("rest", 2, 1)

LAST_EVEN = Machine(2, (1,), ((0, EVEN, 1), (0, ODD, 0), (1, EVEN, 1), (1, ODD, 0)))
# 0 by small letters, 1 by one great letter, 2 by two and more.
GREATS = Machine(3, (2,), ((0, TO_2, 0), (0, FROM_3, 1), (1, TO_2, 1), (1, FROM_3, 2), (2, ALL, 2)))
GREATS_WHY = (((), (3,), (3, 3)), ((0, 1, (3,)), (0, 2, ()), (1, 2, ())))


def is_sure_and_full(machine):
    return unsure_at(machine) is None and lacking_at(machine) is None


def why_by_search(machine):
    """The why of the least words of a machine that is sure and full, found letter by letter, None where there is none."""
    words = walk_by_search((0,), lambda states, letter: led(machine.arrows, states, letter), LETTERS)
    if len(words) < machine.many:
        return None
    parts = []
    for pair in itertools.combinations(range(machine.many), 2):
        found = walk_by_search(pair, lambda two, letter: tuple(led(machine.arrows, (state,), letter)[0] for state in two),
                               LETTERS)
        parting = [found[two] for two in found if (two[0] in machine.ends) != (two[1] in machine.ends)]
        if not parting:
            return None
        parts.append(pair + (parting[0],))
    return tuple(words[(state,)] for state in range(machine.many)), tuple(parts)


def is_why_by_search(machine, thing):
    """Whether what is made of tuples and numbers is a why, straight by the words of the document."""
    def is_word(word):
        return isinstance(word, tuple) and all(type(letter) is int for letter in word)

    if not is_sure_and_full(machine) or len(thing) != 2:
        return False
    words, parts = thing
    if len(words) != machine.many or not all(is_word(word) for word in words):
        return False
    if any(led_by(machine.arrows, (0,), word) != (state,) for state, word in enumerate(words)):
        return False
    if not all(len(part) == 3 and is_word(part[2]) for part in parts):
        return False
    if tuple(part[:2] for part in parts) != tuple(itertools.combinations(range(machine.many), 2)):
        return False
    return all((led_by(machine.arrows, (state,), word)[0] in machine.ends)
               != (led_by(machine.arrows, (other,), word)[0] in machine.ends) for state, other, word in parts)


class WhyLeast(unittest.TestCase):
    def test_one_state(self):
        for machine in (TAKES_ALL, TAKES_NONE, Machine(1, (0,), ((0, EVEN, 0), (0, ODD, 0), (0, ALL, 0)))):
            self.assertEqual(why_least(machine), (((),), ()))
            self.assertIs(is_why(machine, (((),), ())), True)
            self.assertIs(is_why(machine, (((5, -7),), ())), True)

    def test_told(self):
        self.assertEqual(why_least(GREATS), GREATS_WHY)
        self.assertEqual(why_least(LAST_EVEN), (((), (0,)), ((0, 1, ()),)))

    def test_the_least_words_of_both_kinds(self):
        # By 1 and by -1 to 1, by 7 alone to 2; these two are parted by -5 and by words from 9 on.
        arrows = ((0, ("either", ("both", ("from", 1), ("to", 6)), ("to", -1)), 1),
                  (0, ("from", 7), 2), (0, ("both", ("from", 0), ("to", 0)), 0),
                  (1, ("either", ("from", 9), ("to", -5)), 3), (1, ("both", ("from", -4), ("to", 8)), 0),
                  (2, ALL, 0), (3, ALL, 3))
        why = why_least(Machine(4, (3,), arrows))
        self.assertEqual(why, (((), (1,), (7,), (1, -5)), ((0, 1, (-5,)), (0, 2, (1, -5)), (0, 3, ()), (1, 2, (-5,)),
                                                           (1, 3, ()), (2, 3, ()))))

    def test_parted_by_a_shorter_word_of_greater_letters(self):
        arrows = ((0, ("to", 50), 1), (0, ("from", 51), 2), (1, ("to", 50), 2), (1, ("from", 51), 1), (2, ALL, 2))
        why = why_least(Machine(3, (2,), arrows))
        self.assertEqual(why[1][0], (0, 1, (0,)))
        swapped = ((0, ("to", 50), 1), (0, ("from", 51), 2), (1, ALL, 0), (2, ALL, 2))
        self.assertEqual(why_least(Machine(3, (2,), swapped))[1][0], (0, 1, (51,)))

    def test_none(self):
        for parts in (
            (2, (1,), ((0, EVEN, 1), (0, ALL, 0), (1, ALL, 1))), (1, (0,), ()), (1, (0,), ((0, EVEN, 0),)),
            (2, (1,), ((0, ALL, 1), (1, FROM_3, 1))), (2, (0, 1), ((0, ALL, 1), (1, ALL, 0))),
            (2, (), ((0, EVEN, 1), (0, ODD, 0), (1, ALL, 1))), (2, (1,), ((0, ALL, 0), (1, ALL, 1))),
            (3, (2,), ((0, ALL, 1), (1, ALL, 1), (2, ALL, 0), (2, NONE, 1))),
            (3, (1, 2), ((0, FROM_3, 1), (0, TO_2, 2), (1, ALL, 0), (2, ALL, 0))),
            (2, (1,), ((0, ALL, 1), (1, ALL, 0), (1, EVEN, 1))),
        ):
            machine = Machine(*parts)
            self.assertIsNone(why_least(machine), machine)
            words = [(), (3,), (0,), (3, 3)]
            for given in itertools.product(words, repeat=machine.many):
                pairs = itertools.combinations(range(machine.many), 2)
                parts = tuple(pair + (word,) for pair, word in zip(pairs, itertools.cycle(words)))
                self.assertIs(is_why(machine, (given, parts)), False)

    def test_by_search(self):
        found = 0
        for parts in random_groups(800, 90):
            for function in (least_of, sure_of):
                machine = told_or_refused(function, Machine(*parts))
                if isinstance(machine, Machine) and machine.many < 12:
                    why = why_least(machine)
                    self.assertEqual(why, why_by_search(machine))
                    found += why is not None and len(why[1]) > 1
        self.assertGreater(found, 20)

    def test_there_just_where_it_has_the_fewest_states(self):
        chance = random.Random(801)
        told = []
        for parts in random_groups(802, 60):
            machine = Machine(*parts)
            least = told_or_refused(least_of, machine)
            if isinstance(least, Machine):
                again = Machine(*renumbered(chance, (least.many, least.ends, least.arrows)))
                for one in (machine, least, again, told_or_refused(sure_of, machine)):
                    if isinstance(one, Machine):
                        fewest = is_sure_and_full(one) and one.many == least.many
                        self.assertEqual(why_least(one) is not None, fewest)
                        told.append(fewest)
                        if fewest:
                            self.assertIs(is_why(one, why_least(one)), True)
        self.assertGreater(min(told.count(True), told.count(False)), 20)

    def test_forty_states(self):
        machine = Machine(*counted(40))
        words, parts = why_least(machine)
        self.assertEqual(words, tuple((0,) * many for many in range(40)))
        self.assertEqual(len(parts), 780)
        self.assertEqual(parts[-1], (38, 39, (0,)))
        self.assertEqual(parts[39], (1, 2, (0,) * 38))
        self.assertIs(is_why(machine, (words, parts)), True)
        self.assertEqual(len(why_least(least_of(Machine(*last_but(5))))[1]), 32 * 31 // 2)

    def test_refused_and_by_name(self):
        for function in (why_least, lambda thing: is_why(thing, ()), lambda thing: is_why(thing, None)):
            refuses_machines(self, function)
            self.assertRaises(NoMachine, function, Turner(1, (), ()))
        self.assertEqual(why_least(machine=TAKES_ALL), (((),), ()))
        self.assertIs(is_why(thing=(((),), ()), machine=TAKES_ALL), True)

    def test_the_same_again_and_nothing_is_changed(self):
        before = copy.deepcopy(GREATS)
        self.assertEqual([why_least(GREATS) for _ in range(2)], [GREATS_WHY] * 2)
        self.assertEqual([is_why(GREATS, GREATS_WHY) for _ in range(2)], [True] * 2)
        self.assertEqual(GREATS, before)


class IsWhy(unittest.TestCase):
    def look(self, machine, thing):
        self.assertIs(is_why(machine, thing), is_why_by_search(machine, thing), thing)

    def test_longer_words_that_are_right_too(self):
        words, parts = GREATS_WHY
        for thing in (
            (((0, 1, 2), (0, 4, -9), (3, 0, 4, 5)), parts), (words, ((0, 1, (0, 99)), (0, 2, (0,)), (1, 2, (1, 2)))),
            (words, ((0, 1, (7,)), (0, 2, (3,)), (1, 2, ()))), (((-7,), (10 ** 12 - 1,), (9, 9, 9)), parts),
        ):
            self.assertIs(is_why(GREATS, thing), True)

    def test_words_that_lead_elsewhere_or_part_nothing(self):
        words, parts = GREATS_WHY
        for thing in (
            (((3,), (3,), (3, 3)), parts), (((), (), (3, 3)), parts), (((), (3,), (3,)), parts),
            (words, ((0, 1, ()), (0, 2, ()), (1, 2, ()))), (words, ((0, 1, (2,)), (0, 2, ()), (1, 2, ()))),
            (words, ((0, 1, (3, 3)), (0, 2, ()), (1, 2, ()))), (words, ((0, 1, (3,)), (0, 2, ()), (1, 2, (3,)))),
        ):
            self.assertIs(is_why(GREATS, thing), False)

    def test_parts_missing_twice_and_in_another_order(self):
        words, parts = GREATS_WHY
        for order in itertools.product(parts, repeat=3):
            self.assertIs(is_why(GREATS, (words, order)), order == parts)
        for at in range(3):
            self.assertIs(is_why(GREATS, (words, parts[:at] + parts[at + 1:])), False)
            self.assertIs(is_why(GREATS, (words, parts[:at] + parts[at:at + 1] + parts[at:])), False)
            self.assertIs(is_why(GREATS, (words[:at] + words[at + 1:], parts)), False)
        self.assertIs(is_why(GREATS, (words + ((3, 3, 3),), parts)), False)
        self.assertIs(is_why(GREATS, (parts, words)), False)
        self.assertIs(is_why(GREATS, (words, parts, ())), False)
        self.assertIs(is_why(GREATS, (words,)), False)

    def test_state_not_less_than_other(self):
        words, parts = GREATS_WHY
        self.assertIs(is_why(GREATS, (words, ((1, 0, (3,)),) + parts[1:])), False)
        self.assertIs(is_why(GREATS, (words, parts[:2] + ((2, 1, ()),))), False)
        self.assertIs(is_why(GREATS, (words, ((0, 0, ()),) + parts)), False)
        self.assertIs(is_why(GREATS, (words, parts + ((2, 3, ()),))), False)

    def test_otherwise_at_any_depth(self):
        for machine in (GREATS, LAST_EVEN, TAKES_ALL):
            for thing in put_otherwise_anywhere(why_least(machine)):
                self.look(machine, thing)

    def test_things_of_other_kinds_within(self):
        for machine in (GREATS, LAST_EVEN, TAKES_ALL):
            for thing in of_wrong_kinds(why_least(machine)):
                self.assertIs(is_why(machine, thing), False, thing)

    def test_anything(self):
        for machine in (GREATS, LAST_EVEN, TAKES_ALL, Machine(1, (), ())):
            for thing in anything() + [((), ()), (((), (0,)), ((0, 1, None),)), (((),), ((),))]:
                self.assertIs(is_why(machine, thing), False)

    def test_of_a_machine_that_has_none(self):
        words, parts = GREATS_WHY
        self.assertIs(is_why(Machine(3, (2,), GREATS.arrows + ((2, EVEN, 0),)), (words, parts)), False)
        self.assertIs(is_why(Machine(3, (2,), GREATS.arrows[:-1]), (words, parts)), False)
        self.assertIs(is_why(Machine(3, (2,), GREATS.arrows + ((2, EVEN, 2), (0, NONE, 2))), (words, parts)), True)


if __name__ == "__main__":
    unittest.main()
