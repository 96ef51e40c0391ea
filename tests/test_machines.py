"""Points [2], [3], [4] of machines, [40], [41] and [42]."""

import copy
import itertools
import random
import unittest

from sayarrows.errors import BadMachine, NoMachine, NoWord, SayError
from sayarrows.machines import Machine, come_to, lacking_at, takes, unsure_at
from sayarrows.shapes import moved_on, shape_of
from tests.helper import Equality, LETTERS, anything, led, led_by, nots, random_parts, taken

ALL = ("all",)
NONE = ("none",)
FROM_3 = ("from", 3)
FROM_3_SHAPE = ("0", 3, "", "1")
EVEN = ("rest", 2, 0)
GREAT = 10 ** 12 - 1

ONE = Machine(2, (1,), ((0, ALL, 1),))


def refuses_machines(case, function):
    """A function of a machine refuses all that is none."""
    for thing in anything() + [(), (0,), (2, (1,), ()), [2, (1,), ()], {"many": 2}, repr(ONE), (ONE,), [ONE]]:
        with case.subTest(thing):
            case.assertRaises(NoMachine, function, thing)


def random_machines(seed, many, most_states=5):
    chance = random.Random(seed)
    found = []
    for _ in range(many):
        states = chance.randint(1, most_states)
        found.append(Machine(*random_parts(chance, states, chance.randint(0, 3 * states))))
    return found


class Made(unittest.TestCase):
    def bad(self, at, *parts):
        with self.subTest(parts=repr(parts)[:200]):
            with self.assertRaises(BadMachine) as caught:
                Machine(*parts)
            self.assertIs(type(caught.exception.at), int)
            self.assertEqual(caught.exception.at, at)
            self.assertIsInstance(caught.exception, SayError)

    def bad_arrow(self, arrow):
        self.bad(0, 2, (), (arrow,))
        self.bad(1, 2, (), ((0, ALL, 1), arrow))
        self.bad(1, 2, (), ((0, ALL, 1), arrow, (1, ALL, 0), arrow, None))

    def test_the_three_are_its_values(self):
        arrows = ((0, FROM_3, 1), (1, FROM_3_SHAPE, 0), (0, FROM_3, 1), (2, nots(30), 2))
        machine = Machine(3, (0, 2), arrows)
        self.assertEqual((machine.many, machine.ends, machine.arrows), (3, (0, 2), arrows))
        bare = Machine(1, (), ())
        self.assertEqual((bare.many, bare.ends, bare.arrows), (1, (), ()))

    def test_by_name(self):
        self.assertEqual(Machine(arrows=((0, ALL, 1),), many=2, ends=(1,)), ONE)
        self.assertEqual(Machine(2, ends=(1,), arrows=((0, ALL, 1),)), ONE)

    def test_many(self):
        for many in (1, 2, 39, 40):
            self.assertEqual(len(Machine(many, (), ())), many)
        for many in (0, 41, -1, -40, 400, GREAT, True, False, None, "1", "", (1,), [1], {}, ()):
            self.bad(-2, many, (), ())
        for thing in anything():
            if thing != 1 or thing is True:
                self.bad(-2, thing, (), ())

    def test_ends(self):
        for ends in ((), (0,), (2,), (0, 1), (0, 2), (0, 1, 2)):
            self.assertEqual(Machine(3, ends, ()).ends, ends)
        self.assertEqual(Machine(40, tuple(range(40)), ()).ends, tuple(range(40)))
        wrong = [[], [0], (3,), (-1,), (0, 3), (1, 0), (2, 1, 0), (0, 2, 1), (0, 0), (1, 1), (0, 1, 1), (1, 1, 2)]
        wrong += [(True,), (False,), (0, True), (False, 1), (None,), ("0",), ((0,),), ([],), 0, 1, None, "", "0", {}]
        wrong += [{0: 1}, (GREAT,), (0, 1, 2, 3), True]
        for ends in wrong + anything():
            self.bad(-1, 3, ends, ())
        self.bad(-1, 1, (1,), ())
        self.bad(-1, 40, (40,), ())

    def test_arrows_that_are_no_tuple(self):
        for arrows in [thing for thing in anything() if not isinstance(thing, tuple)] + [[(0, ALL, 1)], "", {}, []]:
            self.bad(0, 2, (), arrows)
        for arrows in [thing for thing in anything() if isinstance(thing, tuple)] + [(0, ALL, 1)]:
            self.bad(0, 2, (), arrows)

    def test_arrows_of_other_parts(self):
        for arrow in ((), (0,), (0, 1), (0, ALL), (ALL, 1), (0, ALL, 1, 1), (0, ALL, 1, None), [0, ALL, 1]):
            self.bad_arrow(arrow)
        for arrow in (None, 0, True, "", "0a1", {}, {0: 1}, [], ((0, ALL, 1),), (ALL, 0, 1), (0, 1, ALL), (1, 0, 1)):
            self.bad_arrow(arrow)

    def test_states_of_arrows(self):
        for state in (2, -1, 40, GREAT, True, False, None, "0", (0,), [0], {}):
            self.bad_arrow((state, ALL, 1))
            self.bad_arrow((0, ALL, state))
        self.assertEqual(len(Machine(40, (39,), ((39, ALL, 39), (0, ALL, 39), (39, ALL, 0)))), 40)
        self.bad(0, 40, (), ((40, ALL, 0),))
        self.bad(0, 40, (), ((0, ALL, 40),))

    def test_guards_of_arrows(self):
        for guard in (ALL, NONE, ("from", -99), ("to", 99), ("rest", 6, 5), nots(30), FROM_3_SHAPE, ("10", 0, "", "10")):
            self.assertEqual(Machine(1, (), ((0, guard, 0),)).arrows, ((0, guard, 0),))
        wrong = ["all", ["all"], ("ALL",), ("all", 0), ("from", 100), ("to", -100), ("from", True), ("rest", 7, 0)]
        wrong += [("rest", 6, 6), ("rest", 2, -1), ("not",), ("not", "all"), nots(31), ("0", 3, "", "0")]
        wrong += [("0", 3, "1", "1"), ("1010", 0, "", "10"), ("0", True, "", "1"), ("0" * 6 + "1", 0, "", "1"), ONE]
        for guard in wrong + anything():
            self.bad_arrow((0, guard, 1))

    def test_shapes_that_were_told_whatever_their_size(self):
        shape = shape_of(("from", 99))
        for _ in range(30):
            shape = moved_on(shape, 9999)
        machine = Machine(2, (1,), ((0, shape, 1),))
        self.assertEqual([takes(machine, (n,)) for n in (99 + 30 * 9999 - 1, 99 + 30 * 9999)], [False, True])
        self.assertEqual(lacking_at(machine), (0, 0))

    def test_how_many_arrows(self):
        arrow = (0, EVEN, 1)
        full = Machine(2, (), (arrow,) * 1600)
        self.assertEqual(full.arrows, (arrow,) * 1600)
        self.bad(1600, 2, (), (arrow,) * 1601)
        self.bad(1600, 2, (), (arrow,) * 1700)
        bad = (0, EVEN, 2)
        self.bad(0, 2, (), (bad,) + (arrow,) * 1600)
        self.bad(7, 2, (), (arrow,) * 7 + (bad,) + (arrow,) * 1600)
        self.bad(1599, 2, (), (arrow,) * 1599 + (bad,))
        self.bad(1599, 2, (), (arrow,) * 1599 + (bad, arrow))
        self.bad(1600, 2, (), (arrow,) * 1600 + (bad,))
        self.bad(0, 2, (), [arrow] * 1601)
        self.bad(-1, 2, [], (arrow,) * 1601)

    def test_what_is_looked_at_first(self):
        self.bad(-2, 0, None, None)
        self.bad(-2, 41, (1, 0), ((0, ALL, 9),))
        self.bad(-2, True, (), ())
        self.bad(-1, 2, None, None)
        self.bad(-1, 2, (2,), ((0, ALL, 9),))
        self.bad(0, 2, (1,), None)


class Shown(Equality, unittest.TestCase):
    def test_len_and_truth(self):
        self.assertEqual(len(ONE), 2)
        self.assertIs(bool(Machine(1, (), ())), True)

    def test_the_same_three(self):
        self.same(ONE, ONE)
        self.same(ONE, Machine(2, (1,), ((0, ALL, 1),)))
        self.same(Machine(1, (), ()), Machine(1, (), ()))
        for seed in range(10):
            parts = random_parts(random.Random(seed), 4, 8)
            self.same(Machine(*parts), Machine(*copy.deepcopy(parts)))

    def test_another_one_of_the_three(self):
        self.unlike(ONE, Machine(3, (1,), ((0, ALL, 1),)))
        self.unlike(ONE, Machine(2, (), ((0, ALL, 1),)))
        self.unlike(ONE, Machine(2, (0, 1), ((0, ALL, 1),)))
        self.unlike(ONE, Machine(2, (1,), ()))
        self.unlike(ONE, Machine(2, (1,), ((1, ALL, 1),)))
        self.unlike(ONE, Machine(2, (1,), ((0, ALL, 0),)))
        self.unlike(ONE, Machine(2, (1,), ((0, ALL, 1), (0, ALL, 1))))

    def test_the_same_guard_put_otherwise(self):
        for guard in (("not", NONE), ("either", ALL, NONE), shape_of(ALL), ("not", ("not", ALL))):
            self.unlike(ONE, Machine(2, (1,), ((0, guard, 1),)))

    def test_arrows_in_another_order(self):
        one, other = (0, FROM_3, 1), (1, EVEN, 0)
        self.unlike(Machine(2, (), (one, other)), Machine(2, (), (other, one)))

    def test_things_of_other_kinds(self):
        for thing in anything() + [(2, (1,), ((0, ALL, 1),)), repr(ONE), 2, (ONE,), [ONE]]:
            self.unlike(ONE, thing)
        self.assertIn(ONE, [2, "x", ONE])

    def test_repr(self):
        self.assertEqual(repr(ONE), "Machine(2, ends=(1,), arrows=((0, ('all',), 1),))")
        self.assertEqual(repr(Machine(1, (), ())), "Machine(1, ends=(), arrows=())")
        self.assertEqual(repr(Machine(3, (0, 2), ())), "Machine(3, ends=(0, 2), arrows=())")
        self.assertEqual(repr(Machine(1, (0,), ((0, ("not", ("from", -3)), 0), (0, ("0", 4, "", "10"), 0)))),
                         "Machine(1, ends=(0,), arrows=((0, ('not', ('from', -3)), 0), (0, ('0', 4, '', '10'), 0)))")
        for machine in random_machines(40, 10):
            self.assertEqual(eval(repr(machine)), machine)


class Words(unittest.TestCase):
    def test_the_word_of_no_letters(self):
        self.assertEqual(come_to(ONE, ()), (0,))
        self.assertIs(takes(ONE, ()), False)
        self.assertIs(takes(Machine(1, (0,), ()), ()), True)
        self.assertEqual(come_to(Machine(40, (), ()), ()), (0,))

    def test_arrow_by_arrow(self):
        self.assertEqual(come_to(ONE, (5,)), (1,))
        self.assertIs(takes(ONE, (5,)), True)
        self.assertEqual(come_to(ONE, (5, 5)), ())
        self.assertIs(takes(ONE, (5, 5)), False)

    def test_two_ways_to_one_state_and_to_two(self):
        machine = Machine(4, (3,), ((0, FROM_3, 2), (0, EVEN, 1), (1, ALL, 3), (2, EVEN, 3), (0, FROM_3_SHAPE, 2)))
        self.assertEqual(come_to(machine, (4,)), (1, 2))
        self.assertEqual(come_to(machine, (3,)), (2,))
        self.assertEqual(come_to(machine, (2,)), (1,))
        self.assertEqual(come_to(machine, (1,)), ())
        self.assertEqual(come_to(machine, (4, 4)), (3,))
        self.assertEqual(come_to(machine, (3, 3)), ())
        self.assertEqual(come_to(machine, (4, 4, 4)), ())

    def test_they_rise(self):
        aims = (32, 8, 39, 1, 16, 24, 9)
        machine = Machine(40, (), tuple((0, ALL, to) for to in aims))
        self.assertEqual(come_to(machine, (0,)), (1, 8, 9, 16, 24, 32, 39))

    def test_one_end_among_them_is_enough(self):
        machine = Machine(3, (2,), ((0, ALL, 0), (0, EVEN, 1), (0, FROM_3, 2)))
        self.assertEqual(come_to(machine, (4,)), (0, 1, 2))
        self.assertIs(takes(machine, (4,)), True)
        self.assertIs(takes(machine, (2,)), False)

    def test_no_way_left(self):
        machine = Machine(2, (0, 1), ((0, NONE, 1), (0, FROM_3, 0)))
        self.assertEqual(come_to(machine, (3, 2, 3)), ())
        self.assertIs(takes(machine, (3, 2, 3)), False)
        self.assertIs(takes(machine, (3, 3)), True)

    def test_great_letters(self):
        machine = Machine(3, (1,), ((0, ("both", FROM_3, EVEN), 1), (0, ("both", ("to", -3), ("rest", 6, 5)), 2)))
        self.assertEqual(come_to(machine, (GREAT - 1,)), (1,))
        self.assertEqual(come_to(machine, (GREAT,)), ())
        self.assertEqual(come_to(machine, (-GREAT,)), ())
        self.assertEqual(GREAT % 6, 3)
        self.assertEqual(come_to(machine, (-GREAT + 2,)), (2,))
        self.assertEqual(come_to(machine, (-1,)), ())

    def test_by_search(self):
        chance = random.Random(41)
        for machine in random_machines(41, 40):
            for _ in range(12):
                word = tuple(chance.choice(LETTERS) for _ in range(chance.randint(0, 5)))
                self.assertEqual(come_to(machine, word), led_by(machine.arrows, (0,), word))
                self.assertIs(takes(machine, word), taken(machine, word))

    def test_thirty_letters(self):
        machine = Machine(3, (0,), tuple((state, ALL, (state + 1) % 3) for state in range(3)))
        self.assertEqual([takes(machine, (7,) * many) for many in (28, 29, 30)], [False, False, True])

    def test_refused(self):
        for function in (come_to, takes):
            refuses_machines(self, lambda thing: function(thing, ()))
            refuses_machines(self, lambda thing: function(thing, None))
            for word in anything() + [[1], (True,), (1, False), (1, None), ("1",), ((1,),), 1, {1: 1}]:
                with self.subTest(word):
                    self.assertRaises(NoWord, function, ONE, word)

    def test_a_word_is_looked_at_whole(self):
        self.assertRaises(NoWord, takes, Machine(1, (), ()), (1, 1, None))

    def test_by_name(self):
        self.assertEqual(come_to(word=(1,), machine=ONE), (1,))
        self.assertIs(takes(word=(1,), machine=ONE), True)

    def test_nothing_is_changed(self):
        for machine in random_machines(42, 10):
            before = copy.deepcopy(machine)
            answers = [(come_to(machine, (3, 1)), takes(machine, (2,)), unsure_at(machine), lacking_at(machine))
                       for _ in range(2)]
            self.assertEqual(answers[0], answers[1])
            self.assertEqual(machine, before)
            self.assertEqual(repr(machine), repr(before))


def first_by_search(machine, is_found):
    for state, letter in itertools.product(range(machine.many), LETTERS):
        if is_found(len(led(machine.arrows, (state,), letter))):
            return state, letter
    return None


class SureAndFull(unittest.TestCase):
    def test_two_arrows_to_one_state(self):
        machine = Machine(2, (), ((0, ALL, 1), (0, FROM_3, 1), (0, EVEN, 1), (1, ALL, 0)))
        self.assertIsNone(unsure_at(machine))
        self.assertIsNone(lacking_at(machine))

    def test_two_arrows_to_two_states(self):
        self.assertEqual(unsure_at(Machine(2, (), ((0, ALL, 1), (0, FROM_3, 0)))), (0, 3))
        self.assertEqual(unsure_at(Machine(2, (), ((0, ("to", 2), 1), (0, FROM_3, 0)))), None)
        self.assertEqual(unsure_at(Machine(2, (), ((0, ("to", 3), 1), (0, FROM_3, 0)))), (0, 3))

    def test_three_of_which_two_meet(self):
        arrows = ((0, ("from", 5), 0), (0, ("to", -5), 1), (0, ("rest", 6, 0), 2))
        self.assertEqual(unsure_at(Machine(3, (), arrows)), (0, 6))
        self.assertEqual(unsure_at(Machine(3, (), arrows[1:])), (0, -6))
        self.assertEqual(unsure_at(Machine(3, (), arrows[::-1])), (0, 6))
        self.assertIsNone(unsure_at(Machine(3, (), arrows[:2])))

    def test_guards_that_nothing_fits(self):
        nothing = ("both", ("from", 4), ("to", 3))
        self.assertIsNone(unsure_at(Machine(2, (), ((0, ALL, 1), (0, NONE, 0), (0, nothing, 0)))))
        self.assertEqual(lacking_at(Machine(1, (), ((0, NONE, 0), (0, nothing, 0)))), (0, 0))

    def test_the_least_state_and_then_the_least_letter(self):
        arrows = ((1, ALL, 0), (1, FROM_3, 1), (1, ("to", -3), 1), (2, ALL, 0), (2, ALL, 1), (0, ALL, 0))
        self.assertEqual(unsure_at(Machine(3, (), arrows)), (1, 3))
        self.assertEqual(unsure_at(Machine(3, (), ((1, ALL, 0), (1, ("from", 4), 1), (1, ("to", -3), 1)))), (1, -3))
        self.assertEqual(lacking_at(Machine(3, (), ((0, ALL, 0), (1, ("to", 1), 2)))), (1, 2))
        self.assertEqual(lacking_at(Machine(3, (), ((0, ALL, 0), (1, ("from", -1), 2)))), (1, -2))
        self.assertEqual(lacking_at(Machine(3, (), ((0, ALL, 0), (1, ALL, 2)))), (2, 0))

    def test_the_order_of_letters(self):
        but = ("both", ("not", ("both", ("from", -7), ("to", -7))), ("to", 7))
        self.assertEqual(lacking_at(Machine(1, (), ((0, but, 0),))), (0, -7))
        self.assertEqual(lacking_at(Machine(1, (), ((0, ("both", ("from", -7), ("to", 7)), 0),))), (0, 8))
        self.assertEqual(unsure_at(Machine(2, (), ((0, ("not", but), 0), (0, ALL, 1)))), (0, -7))

    def test_states_that_nothing_leads_to_count(self):
        self.assertEqual(lacking_at(Machine(2, (), ((0, ALL, 0),))), (1, 0))
        self.assertEqual(unsure_at(Machine(2, (), ((0, ALL, 0), (1, ALL, 0), (1, ALL, 1)))), (1, 0))

    def test_no_arrows(self):
        self.assertIsNone(unsure_at(Machine(1, (0,), ())))
        self.assertEqual(lacking_at(Machine(1, (0,), ())), (0, 0))

    def test_far_letters(self):
        machine = Machine(2, (), ((0, ("0", 99999, "", "1"), 0), (0, ("1", -99998, "", "0"), 0), (0, ALL, 1)))
        self.assertEqual(unsure_at(machine), (0, 99999))
        self.assertEqual(lacking_at(Machine(1, (), ((0, ("1", 99999, "", "0"), 0),))), (0, 99999))

    def test_by_search(self):
        for machine in random_machines(43, 60, 4):
            self.assertEqual(unsure_at(machine), first_by_search(machine, lambda many: many > 1))
            self.assertEqual(lacking_at(machine), first_by_search(machine, lambda many: many == 0))

    def test_refused(self):
        refuses_machines(self, unsure_at)
        refuses_machines(self, lacking_at)

    def test_by_name(self):
        self.assertIsNone(unsure_at(machine=ONE))
        self.assertEqual(lacking_at(machine=ONE), (1, 0))


if __name__ == "__main__":
    unittest.main()
