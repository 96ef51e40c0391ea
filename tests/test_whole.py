"""Points [1] to [5] and the interface, over the whole program."""

import copy
import importlib
import inspect
import itertools
import random
import unittest

from sayarrows import errors
from sayarrows.alike import compared, empty_paper, first_word, is_alike_paper, is_empty_paper, is_within_paper, within
from sayarrows.cells import asks_of, cells_of, is_cut
from sayarrows.desk import Desk
from sayarrows.joins import again_of, backward_of, behind_of, both_of, either_of, less_of, other_of
from sayarrows.learner import Learner, learnt
from sayarrows.least import least_of, sure_of
from sayarrows.machines import Machine, come_to, lacking_at, takes, unsure_at
from sayarrows.sayings import fits, is_saying, ordered
from sayarrows.shapes import (
    all_others, has_letter, in_both, in_either, is_shape, least_letter, many_letters, moved_on, shape_of,
)
from sayarrows.texts import guard_text, machine_text, read_guard, read_machine, read_word, word_text
from sayarrows.turned import image_of, is_turn_paper, led_into, turns_compared
from sayarrows.turners import Turner, turned_word, turner_of_both
from sayarrows.why import is_why, why_least
from sayarrows.yard import Yard
from tests.helper import anything, random_parts, renumbered
from tests.test_least import put_otherwise, with_states_for_nothing
from tests.test_turners import random_turner

# Each function and class with its arguments, as the interface tells them.
INTERFACE = {
    "sayings": "is_saying(thing) fits(saying, letter) ordered(words)",
    "shapes": "is_shape(thing) shape_of(guard) has_letter(shape, letter) all_others(shape) in_both(one, other) "
              "in_either(one, other) moved_on(shape, by) least_letter(shape) many_letters(shape, low, high)",
    "cells": "cells_of(guards) asks_of(guards) is_cut(guards, thing)",
    "machines": "Machine(many, ends, arrows) come_to(machine, word) takes(machine, word) unsure_at(machine) lacking_at(machine)",
    "least": "sure_of(machine) least_of(machine)",
    "joins": "both_of(one, other) either_of(one, other) less_of(one, other) behind_of(one, other) other_of(machine) "
             "again_of(machine) backward_of(machine)",
    "alike": "compared(one, other) within(one, other) is_alike_paper(one, other, thing) is_within_paper(one, other, thing) "
             "first_word(machine) empty_paper(machine) is_empty_paper(machine, thing)",
    "why": "why_least(machine) is_why(machine, thing)",
    "turners": "Turner(many, ends, arrows) turned_word(turner, word) turner_of_both(one, other)",
    "turned": "led_into(turner, machine) image_of(turner, machine) turns_compared(one, other) is_turn_paper(one, other, thing)",
    "learner": "Learner(machine, *, period=1) learnt(machine, *, period=1, most=200)",
    "yard": "Yard()",
    "texts": "guard_text(guard) word_text(word) machine_text(machine) read_guard(text) read_word(text) read_machine(text)",
    "desk": "Desk()",
}
METHODS = {
    "machines.Machine": "__len__(self) __eq__(self, other) __repr__(self)",
    "turners.Turner": "__len__(self) __eq__(self, other) __repr__(self)",
    "learner.Learner": "step(self) heads(self) tails(self) tried(self, head) asked(self) table_machine(self) twin(self)",
    "yard.Yard": "put(self, name, machine) drop(self, name) make(self, name, word, names) undo(self) names(self) machine(self, name) "
                 "compared(self, one, other) reckoned(self) asked(self) twin(self) __len__(self) __eq__(self, other) __repr__(self)",
    "desk.Desk": "say(self, line)",
}

ALL = ("all",)
FROM_3 = ("from", 3)
EVEN = ("rest", 2, 0)
SHAPE = ("0", 3, "", "1")
ONE = Machine(2, (1,), ((0, FROM_3, 1),))
OTHER = Machine(2, (1,), ((0, ALL, 0), (0, EVEN, 1)))
UP = Turner(1, (0,), ((0, ALL, ("more", 1), 0),))
DOWN = Turner(1, (0,), ((0, ALL, ("more", -1), 0),))

# Of each function what may be handed in, by the names of the interface.
CALLS = [
    (is_saying, {"thing": FROM_3}), (fits, {"saying": FROM_3, "letter": 3}), (ordered, {"words": [(1,), ()]}),
    (is_shape, {"thing": SHAPE}), (shape_of, {"guard": FROM_3}), (has_letter, {"shape": SHAPE, "letter": 3}), (all_others, {"shape": SHAPE}),
    (in_both, {"one": SHAPE, "other": ("10", 0, "", "10")}), (in_either, {"one": SHAPE, "other": ("10", 0, "", "10")}),
    (moved_on, {"shape": SHAPE, "by": 2}), (least_letter, {"shape": SHAPE}), (many_letters, {"shape": SHAPE, "low": -5, "high": 5}),
    (cells_of, {"guards": (FROM_3, SHAPE)}), (asks_of, {"guards": (FROM_3, EVEN)}),
    (is_cut, {"guards": (FROM_3,), "thing": (("0", 0), ("1", 3))}),
    (Machine, {"many": 2, "ends": (1,), "arrows": ((0, ALL, 1),)}), (come_to, {"machine": OTHER, "word": (1, 2)}),
    (takes, {"machine": OTHER, "word": (1, 2)}), (unsure_at, {"machine": OTHER}), (lacking_at, {"machine": OTHER}),
    (sure_of, {"machine": OTHER}), (least_of, {"machine": OTHER}), (both_of, {"one": ONE, "other": OTHER}),
    (either_of, {"one": ONE, "other": OTHER}), (less_of, {"one": ONE, "other": OTHER}), (behind_of, {"one": ONE, "other": OTHER}),
    (other_of, {"machine": ONE}), (again_of, {"machine": ONE}), (backward_of, {"machine": ONE}),
    (compared, {"one": ONE, "other": OTHER}), (within, {"one": ONE, "other": OTHER}),
    (is_alike_paper, {"one": ONE, "other": ONE, "thing": (((), ()), ((0,), (0,)), ((1,), (1,)))}),
    (is_within_paper, {"one": ONE, "other": ONE, "thing": (((), ()), ((0,), (0,)), ((1,), (1,)))}),
    (first_word, {"machine": ONE}), (empty_paper, {"machine": Machine(1, (), ())}),
    (is_empty_paper, {"machine": Machine(1, (), ()), "thing": (0,)}), (why_least, {"machine": least_of(ONE)}),
    (is_why, {"machine": least_of(ONE), "thing": why_least(least_of(ONE))}),
    (Turner, {"many": 2, "ends": (1,), "arrows": ((0, ALL, ("put", 0), 1),)}), (turned_word, {"turner": UP, "word": (1, 2)}),
    (turner_of_both, {"one": UP, "other": DOWN}), (led_into, {"turner": UP, "machine": ONE}), (image_of, {"turner": UP, "machine": ONE}),
    (turns_compared, {"one": UP, "other": DOWN}), (is_turn_paper, {"one": UP, "other": UP, "thing": ((0, 0, 1),)}),
    (learnt, {"machine": ONE, "period": 2, "most": 3}), (guard_text, {"guard": FROM_3}), (word_text, {"word": (1, 2)}),
    (machine_text, {"machine": ONE}), (read_guard, {"text": ">=3"}), (read_word, {"text": "1,2"}),
    (read_machine, {"text": "machine 1\nends\n"}),
]

OF_TWO = (both_of, either_of, less_of, behind_of)
OF_ONE = (other_of, again_of, backward_of, least_of)


def as_told(signature):
    return [(part.name, part.kind, part.default) for part in signature.parameters.values()]


def signature_of(text):
    """The signature of what the interface tells, as `name(one, other)`."""
    space = {}
    exec(f"def {text}: pass", space)
    return inspect.signature(space[text.split("(")[0]])


def listed(text):
    return [part + ")" for part in text.split(")") if part.strip()]


class Interface(unittest.TestCase):
    def test_functions_and_classes(self):
        for module, text in INTERFACE.items():
            there = importlib.import_module(f"sayarrows.{module}")
            for told in listed(text):
                told = told.strip()
                with self.subTest(told):
                    self.assertEqual(as_told(inspect.signature(getattr(there, told.split("(")[0]))), as_told(signature_of(told)))

    def test_methods_stand_in_the_class_itself(self):
        for name, text in METHODS.items():
            module, kind = name.split(".")
            there = getattr(importlib.import_module(f"sayarrows.{module}"), kind)
            for told in listed(text):
                told = told.strip()
                with self.subTest(told):
                    self.assertEqual(as_told(inspect.signature(vars(there)[told.split("(")[0]])), as_told(signature_of(told)))

    def test_each_function_is_called_here(self):
        told = {part.strip().split("(")[0] for text in INTERFACE.values() for part in listed(text)}
        self.assertEqual(told - {function.__name__ for function, given in CALLS}, {"Learner", "Yard", "Desk"})

    def test_by_place_and_by_name_in_whatever_order(self):
        for function, given in CALLS:
            behind_a_star = [part.name for part in inspect.signature(function).parameters.values() if part.kind == part.KEYWORD_ONLY]
            expected = function(**given)
            for order in itertools.permutations(given):
                self.assertEqual(function(**{name: given[name] for name in order}), expected)
            placed = [given[name] for name in given if name not in behind_a_star]
            named = {name: given[name] for name in behind_a_star}
            for many in range(len(placed) + 1):
                rest = dict(list(given.items())[many:len(placed)])
                self.assertEqual(function(*placed[:many], **rest, **named), expected)

    def test_nothing_handed_in_is_changed(self):
        for function, given in CALLS:
            before = copy.deepcopy(given)
            told = function(**given)
            self.assertEqual(given, before)
            self.assertEqual(function(**given), told)

    def test_lists_that_are_told_are_new(self):
        for function, given in CALLS:
            told = function(**given)
            if isinstance(told, list):
                expected = list(told)
                told.append(None)
                self.assertEqual(function(**given), expected)

    def test_an_error_for_each_refusal(self):
        kinds = [kind for kind in vars(errors).values() if isinstance(kind, type)]
        self.assertEqual(len(kinds), 19)
        for kind in kinds:
            self.assertEqual(kind.__bases__, (ValueError,) if kind is errors.SayError else (errors.SayError,))


class LeftFirst(unittest.TestCase):
    def test_what_stands_further_to_the_left_is_looked_at_first(self):
        bad = None
        for error, call in (
            (errors.NoSaying, lambda: fits(bad, bad)), (errors.NoShape, lambda: has_letter(bad, bad)), (errors.NoShape, lambda: moved_on(bad, bad)),
            (errors.NoShape, lambda: many_letters(bad, bad, bad)), (errors.NoGuards, lambda: is_cut(bad, bad)),
            (errors.NoMachine, lambda: takes(bad, bad)), (errors.NoMachine, lambda: is_alike_paper(ONE, bad, bad)),
            (errors.NoTurner, lambda: turned_word(bad, bad)), (errors.NoTurner, lambda: led_into(bad, bad)),
            (errors.NoMachine, lambda: led_into(UP, bad)), (errors.NoMachine, lambda: Learner(bad, period=bad)),
            (errors.NoMachine, lambda: learnt(bad, period=bad, most=bad)), (errors.NoName, lambda: Yard().put(bad, bad)),
            (errors.NoName, lambda: Yard().make(bad, bad, bad)), (errors.NoDeed, lambda: Yard().make("a", bad, (bad,))),
        ):
            self.assertRaises(error, call)

    def test_lookers_of_anything_tell_a_truth(self):
        for thing in anything():
            for told in (is_saying(thing), is_shape(thing), is_cut((), thing), is_alike_paper(ONE, ONE, thing), is_within_paper(ONE, OTHER, thing),
                         is_empty_paper(ONE, thing), is_why(ONE, thing), is_turn_paper(UP, DOWN, thing)):
                self.assertIs(told, False)


def otherwise(chance, machine):
    """A machine of the same words: states numbered otherwise, arrows in another order and twice, sayings put otherwise."""
    many, ends, arrows = with_states_for_nothing(chance, (machine.many, machine.ends, machine.arrows))
    arrows = tuple((state, put_otherwise(chance, guard), to) for state, guard, to in arrows + arrows[:2])
    return Machine(*renumbered(chance, (many, ends, arrows)))


class Promise(unittest.TestCase):
    def setUp(self):
        chance = random.Random(1400)
        self.machines = []
        for _ in range(14):
            states = chance.randint(1, 3)
            self.machines.append(Machine(*random_parts(chance, states, chance.randint(states, 3 * states), 3)))
        self.machines += [ONE, OTHER, Machine(1, (), ()), Machine(1, (0,), ((0, ALL, 0),)), Machine(1, (0,), ())]

    def test_of_each_two_machines_just_one_of_both_is_there(self):
        for one, other in itertools.product(self.machines, repeat=2):
            told, what = compared(one, other)
            if told == "alike":
                self.assertIs(is_alike_paper(one, other, what), True)
                self.assertEqual(least_of(one), least_of(other))
                self.assertIsNone(first_word(less_of(one, other)))
            else:
                self.assertEqual(told, "apart")
                self.assertNotEqual(takes(one, what), takes(other, what))
                self.assertEqual(first_word(either_of(less_of(one, other), less_of(other, one))), what)
                self.assertIs(is_alike_paper(one, other, what), False)

    def test_what_is_told_of_words_hangs_on_these_alone(self):
        chance = random.Random(1401)
        turner = random_turner(chance, 2)
        for machine in self.machines:
            again = otherwise(chance, machine)
            self.assertEqual(compared(machine, again)[0], "alike")
            self.assertEqual(first_word(machine), first_word(again))
            for function in OF_ONE:
                self.assertEqual(function(machine), function(again))
            for function in OF_TWO:
                self.assertEqual(function(machine, OTHER), function(again, OTHER))
                self.assertEqual(function(ONE, machine), function(ONE, again))
            for function in (led_into, image_of):
                self.assertEqual(function(turner, machine), function(turner, again))
            self.assertEqual(why_least(least_of(machine)), why_least(least_of(again)))
            self.assertEqual(learnt(machine, period=60, most=6), learnt(again, period=60, most=6))
            for other in (ONE, OTHER):
                if compared(machine, other)[0] == "apart":
                    self.assertEqual(compared(machine, other), compared(again, other))
                self.assertEqual(within(machine, other)[0], within(again, other)[0])

    def test_what_was_told_is_handed_in_again(self):
        turner = random_turner(random.Random(1402), 2)
        for machine in self.machines:
            least = least_of(machine)
            self.assertEqual(read_machine(machine_text(least)), least)
            self.assertIs(is_why(least, why_least(least)), True)
            self.assertEqual(learnt(least, period=60, most=400)[-1], ("done", least))
            yard = Yard()
            yard.put("a", image_of(turner, machine))
            yard.make("b", "other", ("a",))
            yard.make("b", "other", ("b",))
            self.assertEqual(yard.compared("a", "b")[0], "alike")

    def test_deeds_change_only_their_own(self):
        one, other = Learner(ONE), Learner(ONE)
        one.step()
        self.assertEqual(other.asked(), 0)
        yard, desk = Yard(), Desk()
        yard.put("a", ONE)
        desk.say("put b 1 -")
        self.assertEqual((yard.names(), desk.say("names"), Yard().names(), Desk().say("names")), (["a"], "b", [], "none"))


if __name__ == "__main__":
    unittest.main()
