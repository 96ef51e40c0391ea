"""Points [2] to [5] of yards, [110] and [111]."""

import copy
import itertools
import random
import unittest

from sayarrows.alike import compared
from sayarrows.cells import asks_of
from sayarrows.errors import NoDeed, NoMachine, NoName, TooMany
from sayarrows.joins import again_of, backward_of, behind_of, both_of, either_of, less_of, other_of
from sayarrows.least import least_of
from sayarrows.machines import Machine
from sayarrows.shapes import shape_of
from sayarrows.turners import Turner
from sayarrows.yard import Yard
from tests.helper import Equality, anything, last_but, nots
from tests.test_least import TAKES_ALL, TAKES_NONE
from tests.test_machines import random_machines

ALL = ("all",)
FROM_3 = ("from", 3)
EVEN = ("rest", 2, 0)

ONE_BIG = Machine(2, (1,), ((0, FROM_3, 1),))
EVENS = Machine(2, (1,), ((0, EVEN, 1), (1, EVEN, 1)))
GUESSES = Machine(3, (2,), ((0, ALL, 0), (0, FROM_3, 1), (1, EVEN, 2)))
BARE = Machine(1, (0,), ())

OF_TWO = {"both": both_of, "either": either_of, "less": less_of, "behind": behind_of}
OF_ONE = {"other": other_of, "again": again_of, "backward": backward_of, "least": least_of}

GOOD_NAMES = ("a", "z", "ab", "abcdefgh", "zzzzzzzz", "none", "both")
BAD_NAMES = ("", "abcdefghi", "A", "aB", "a1", "1", "a b", " a", "a ", "a-", "a\n", "\na", "a\t", "_", "-", "a.b", "ab\ncd")


def no_names():
    return list(BAD_NAMES) + [None, True, 1, ("a",), ["a"], {"a": 1}] + [
        thing for thing in anything() if not (isinstance(thing, str) and thing in GOOD_NAMES + ("all",))]


def yard_of(**machines):
    yard = Yard()
    for name, machine in machines.items():
        yard.put(name, machine)
    return yard


def shown(yard):
    """All that a yard tells without a change."""
    return yard.names(), [yard.machine(name) for name in yard.names()], yard.reckoned(), yard.asked(), len(yard), repr(yard)


class Deeds(unittest.TestCase):
    def refuses(self, error, yard, deed, *given):
        """The deed is refused, changes nothing and is not undone."""
        before = shown(yard)
        twin = yard.twin()
        with self.subTest(given=repr(given)[:100]):
            self.assertRaises(error, deed, *given)
        self.assertEqual(shown(yard), before)
        self.undone_alike(yard.twin(), twin)

    def undone_alike(self, one, other):
        while True:
            self.assertEqual(one, other)
            try:
                one.undo()
            except NoDeed:
                self.assertRaises(NoDeed, other.undo)
                return
            other.undo()

    def test_put(self):
        yard = Yard()
        for at, name in enumerate(GOOD_NAMES):
            self.assertIsNone(yard.put(name, ONE_BIG))
            self.assertEqual(yard.machine(name), ONE_BIG)
            self.assertEqual(len(yard), at + 1)
        self.assertIsNone(yard.put("a", EVENS))
        self.assertEqual((yard.machine("a"), len(yard)), (EVENS, len(GOOD_NAMES)))
        for name in no_names():
            self.refuses(NoName, yard, yard.put, name, ONE_BIG)
            self.refuses(NoName, yard, yard.put, name, None)
        for machine in anything() + [Turner(1, (), ()), repr(ONE_BIG), (ONE_BIG,), Yard()]:
            self.refuses(NoMachine, yard, yard.put, "a", machine)
            self.refuses(NoMachine, yard, yard.put, "new", machine)

    def test_drop(self):
        yard = yard_of(a=ONE_BIG, b=EVENS)
        self.assertIsNone(yard.drop("a"))
        self.assertEqual(yard.names(), ["b"])
        for name in no_names() + ["a", "c", "bb"]:
            self.refuses(NoName, yard, yard.drop, name)
        self.assertIsNone(yard.drop("b"))
        self.assertEqual((yard.names(), len(yard)), ([], 0))
        self.refuses(NoName, yard, yard.drop, "b")

    def test_make(self):
        for word, function in OF_TWO.items():
            for names in itertools.product(("a", "b"), repeat=2):
                for name in ("a", "b", "c"):
                    yard = yard_of(a=ONE_BIG, b=EVENS)
                    self.assertIsNone(yard.make(name, word, names))
                    expected = {"a": ONE_BIG, "b": EVENS}
                    expected[name] = function(*({"a": ONE_BIG, "b": EVENS}[part] for part in names))
                    self.assertEqual({part: yard.machine(part) for part in yard.names()}, expected)
        for word, function in OF_ONE.items():
            for name in ("a", "b"):
                yard = yard_of(a=GUESSES)
                self.assertIsNone(yard.make(name, word, ("a",)))
                self.assertEqual(yard.machine(name), function(GUESSES))
                self.assertEqual(yard.machine("a"), function(GUESSES) if name == "a" else GUESSES)

    def test_make_refused(self):
        yard = yard_of(a=ONE_BIG, b=EVENS, many=Machine(*last_but(6)))
        for name in no_names():
            self.refuses(NoName, yard, yard.make, name, "both", ("a", "b"))
            self.refuses(NoName, yard, yard.make, name, "no such word", None)
        for word in ["", "BOTH", "and", "put", "drop", "make", "undo", "both ", None, 2, ("both",), ["both"], {"both": 1}] + anything():
            self.refuses(NoDeed, yard, yard.make, "c", word, ("a", "b"))
            self.refuses(NoDeed, yard, yard.make, "c", word, ("x",))
        for word in OF_TWO:
            for names in ((), ("a",), ("x",), ("a", "b", "a"), ("a",) * 40, ["a", "b"], "ab", None, {"a": 1, "b": 1}, 2):
                self.refuses(NoDeed, yard, yard.make, "c", word, names)
            for names in (("a", "x"), ("x", "a"), ("a", ""), ("a", None), (1, "a"), (("a",), "b"), (["a"], "b"), ({}, "b"), ("a", "A")):
                self.refuses(NoName, yard, yard.make, "c", word, names)
        for word in OF_ONE:
            for names in ((), ("a", "b"), ("x", "y"), ["a"], "a", None, {"a": 1}, 1):
                self.refuses(NoDeed, yard, yard.make, "c", word, names)
            for names in (("x",), ("",), (None,), (["a"],), (("a",),), (True,), ("c",)):
                self.refuses(NoName, yard, yard.make, "c", word, names)
        for names in anything():
            self.refuses(NoName if isinstance(names, tuple) and len(names) == 2 else NoDeed, yard, yard.make, "c", "both", names)

    def test_make_too_many(self):
        yard = yard_of(many=Machine(*last_but(6)), a=ONE_BIG)
        for word, names, many in (("least", ("many",), 64), ("other", ("many",), 64), ("both", ("many", "many"), 64)):
            self.refuses(TooMany, yard, yard.make, "a", word, names)
            with self.assertRaises(TooMany) as caught:
                yard.make("b", word, names)
            self.assertEqual((caught.exception.many, caught.exception.most), (many, 40))
        self.refuses(NoName, yard, yard.make, "b", "both", ("many", "x"))
        self.refuses(NoDeed, yard, yard.make, "b", "least", ("many", "many"))

    def test_undo(self):
        yard = Yard()
        self.refuses(NoDeed, yard, yard.undo)
        deeds = [
            lambda: yard.put("a", ONE_BIG), lambda: yard.put("b", EVENS), lambda: yard.put("a", GUESSES),
            lambda: yard.put("a", GUESSES), lambda: yard.make("c", "both", ("a", "b")), lambda: yard.make("a", "other", ("a",)),
            lambda: yard.drop("b"), lambda: yard.drop("a"), lambda: yard.put("a", TAKES_ALL), lambda: yard.drop("a"),
            lambda: yard.make("b", "least", ("c",)), lambda: yard.drop("c"), lambda: yard.drop("b"),
        ]
        states = []
        for deed in deeds:
            states.append(yard.twin())
            deed()
        for state in states[::-1]:
            self.assertIsNone(yard.undo())
            self.assertEqual(yard, state)
        self.refuses(NoDeed, yard, yard.undo)
        self.assertEqual(yard.names(), [])

    def test_undo_amid_other_deeds(self):
        yard = yard_of(a=ONE_BIG, b=EVENS)
        yard.undo()
        yard.put("c", GUESSES)
        yard.undo()
        self.assertEqual(yard.names(), ["a"])
        yard.undo()
        self.assertEqual(yard.names(), [])
        self.refuses(NoDeed, yard, yard.undo)
        yard.put("a", EVENS)
        yard.undo()
        self.assertEqual(yard.names(), [])
        self.refuses(NoDeed, yard, yard.undo)

    def test_by_chance(self):
        chance = random.Random(1100)
        machines = random_machines(1101, 6, 2)
        for _ in range(15):
            yard, history = Yard(), [{}]
            for _ in range(40):
                named = dict(history[-1])
                deed = chance.choice(("put", "put", "drop", "make", "undo", "undo", "refused"))
                name = chance.choice("abc")
                if deed == "put":
                    named[name] = chance.choice(machines)
                    yard.put(name, named[name])
                elif deed == "drop" and name in named:
                    del named[name]
                    yard.drop(name)
                elif deed == "make" and named:
                    word = chance.choice(list(OF_ONE))
                    other = chance.choice(sorted(named))
                    named[name] = OF_ONE[word](named[other])
                    yard.make(name, word, (other,))
                elif deed == "undo" and len(history) > 1:
                    yard.undo()
                    history.pop()
                    named = None
                else:
                    self.assertRaises(NoName, yard.make, name, "least", ("zz",))
                    named = None
                history += [named] if named is not None else []
                self.assertEqual({part: yard.machine(part) for part in yard.names()}, history[-1])
                self.assertEqual(len(yard), len(history[-1]))

    def test_by_name(self):
        yard = Yard()
        self.assertIsNone(yard.put(machine=ONE_BIG, name="a"))
        self.assertIsNone(yard.make(names=("a",), word="least", name="b"))
        self.assertEqual(yard.machine(name="b"), least_of(ONE_BIG))
        self.assertEqual(yard.compared(other="b", one="a")[0], "alike")
        self.assertIsNone(yard.drop(name="a"))

    def test_nothing_handed_in_is_changed(self):
        machine, names = copy.deepcopy(GUESSES), ("a", "a")
        yard = yard_of(a=machine)
        yard.make("b", "both", names)
        yard.compared("a", "b")
        self.assertEqual((machine, names), (GUESSES, ("a", "a")))


def asks_of_two(one, other):
    """How many times [31] asks with the guards of two machines, where they are at most eight."""
    guards = []
    for state, guard, to in one.arrows + other.arrows:
        if guard not in guards:
            guards.append(guard)
    return asks_of(tuple(guards))


class Told(Equality, unittest.TestCase):
    def test_names(self):
        yard = Yard()
        self.assertEqual(yard.names(), [])
        for name in ("b", "a", "ab", "z", "aa", "zz", "abcdefgh"):
            yard.put(name, ONE_BIG)
        told = yard.names()
        self.assertIs(type(told), list)
        self.assertEqual(told, ["a", "aa", "ab", "abcdefgh", "b", "z", "zz"])
        told.clear()
        self.assertEqual(len(yard.names()), 7)

    def test_machine(self):
        yard = yard_of(a=ONE_BIG)
        self.assertEqual(yard.machine("a"), ONE_BIG)
        for name in no_names() + ["b", "aa"]:
            self.assertRaises(NoName, yard.machine, name)

    def test_compared(self):
        yard = yard_of(a=ONE_BIG, b=EVENS, c=least_of(ONE_BIG))
        for one, other in itertools.product("abc", repeat=2):
            self.assertEqual(yard.compared(one, other), compared(yard.machine(one), yard.machine(other)))
        self.assertEqual(yard.reckoned(), 9)
        for name in no_names() + ["d"]:
            self.assertRaises(NoName, yard.compared, name, "a")
            self.assertRaises(NoName, yard.compared, "a", name)
            self.assertRaises(NoName, yard.compared, name, name)
        self.assertEqual(yard.reckoned(), 9)

    def reckons(self, yard, more, *pairs):
        """Asking of these pairs is reckoned so many times."""
        before = yard.reckoned()
        for one, other in pairs:
            yard.compared(one, other)
        self.assertEqual(yard.reckoned() - before, more)

    def test_kept_for_two_in_this_order(self):
        yard = yard_of(a=ONE_BIG, b=EVENS)
        self.assertEqual((yard.reckoned(), yard.asked()), (0, 0))
        self.reckons(yard, 1, ("a", "b"), ("a", "b"), ("a", "b"))
        self.reckons(yard, 1, ("b", "a"), ("b", "a"), ("a", "b"))
        self.reckons(yard, 1, ("a", "a"), ("a", "a"))
        self.reckons(yard, 1, ("b", "b"), ("a", "a"), ("b", "b"))

    def test_kept_till_a_deed_of_one_of_both_names(self):
        def deeds(yard):
            return [lambda: yard.put("a", GUESSES), lambda: yard.make("a", "least", ("a",)), lambda: yard.put("a", ONE_BIG),
                    lambda: yard.put("a", ONE_BIG), lambda: yard.make("a", "least", ("b",)), yard.undo, yard.undo, yard.undo,
                    yard.undo, yard.undo]

        pairs = [("a", "b"), ("b", "a"), ("a", "a"), ("b", "b"), ("b", "c"), ("c", "c")]
        yard = yard_of(a=ONE_BIG, b=EVENS, c=BARE)
        self.reckons(yard, 6, *pairs)
        for deed in deeds(yard):
            deed()
            self.reckons(yard, 3, *pairs)
            self.reckons(yard, 0, *pairs)
            self.assertEqual(yard.compared("a", "b"), compared(yard.machine("a"), yard.machine("b")))

    def test_kept_beside_deeds_of_another_name(self):
        yard = yard_of(a=ONE_BIG, b=EVENS)
        self.reckons(yard, 1, ("a", "b"))
        yard.put("c", GUESSES)
        yard.make("d", "both", ("a", "b"))
        yard.drop("c")
        yard.undo()
        yard.undo()
        self.assertRaises(NoName, yard.drop, "x")
        self.assertRaises(NoMachine, yard.put, "a", None)
        self.assertRaises(NoDeed, yard.make, "a", "such", ())
        self.assertRaises(NoName, yard.make, "a", "least", ("x",))
        self.reckons(yard, 0, ("a", "b"))

    def test_dropped_and_come_again(self):
        yard = yard_of(a=ONE_BIG, b=EVENS)
        self.reckons(yard, 1, ("a", "b"))
        yard.drop("a")
        self.assertRaises(NoName, yard.compared, "a", "b")
        yard.undo()
        self.reckons(yard, 1, ("a", "b"))
        yard.drop("b")
        yard.put("b", EVENS)
        self.reckons(yard, 1, ("a", "b"))

    def test_asked(self):
        yard = yard_of(a=ONE_BIG, b=EVENS, c=GUESSES, bare=BARE)
        total = 0
        for one, other in itertools.product(("a", "b", "c", "bare"), repeat=2):
            yard.compared(one, other)
            yard.compared(one, other)
            total += asks_of_two(yard.machine(one), yard.machine(other))
            self.assertEqual(yard.asked(), total)
        self.assertEqual(yard.reckoned(), 16)

    def test_asked_by_hand(self):
        yard = yard_of(a=ONE_BIG, b=EVENS, bare=BARE, none=TAKES_NONE)
        for one, other, asks in (("bare", "bare", 0), ("a", "bare", 2), ("a", "a", 2), ("a", "b", 6), ("b", "a", 6),
                                 ("none", "none", 2), ("a", "none", 6), ("none", "a", 4)):
            before = yard.asked()
            yard.compared(one, other)
            self.assertEqual(yard.asked() - before, asks, (one, other))

    def test_the_first_one_s_guards_come_first(self):
        # All letters are one by the first guard, so it makes a difference which stands ahead.
        whole = Machine(1, (0,), ((0, ALL, 0),))
        yard = yard_of(a=whole, b=ONE_BIG)
        yard.compared("a", "b")
        self.assertEqual(yard.asked(), 4)
        yard.compared("b", "a")
        self.assertEqual(yard.asked(), 4 + 6)

    def test_the_same_letters_put_otherwise_are_asked_for_again(self):
        twice = Machine(1, (), ((0, FROM_3, 0), (0, FROM_3, 0), (0, shape_of(FROM_3), 0), (0, ("not", ("to", 2)), 0)))
        yard = yard_of(a=twice)
        yard.compared("a", "a")
        self.assertEqual(yard.asked(), 2 + 4 + 4)

    def test_more_than_eight_guards(self):
        bounds = tuple((0, ("from", at), 0) for at in range(20))
        yard = yard_of(a=Machine(1, (), bounds), b=Machine(1, (), bounds[::-1]))
        yard.compared("a", "b")
        self.assertEqual(yard.asked(), sum(2 * (at + 1) for at in range(20)))
        yard.compared("b", "a")
        self.assertEqual(yard.asked(), 2 * sum(2 * (at + 1) for at in range(20)))

    def test_deep_guards(self):
        machine = Machine(1, (), ((0, nots(30), 0), (0, nots(30), 0), (0, nots(29), 0)))
        yard = yard_of(a=machine)
        yard.compared("a", "a")
        self.assertEqual(yard.asked(), 4)

    def test_undo_leaves_what_was_reckoned_and_asked(self):
        yard = yard_of(a=ONE_BIG)
        yard.compared("a", "a")
        yard.undo()
        self.assertEqual((yard.reckoned(), yard.asked()), (1, 2))

    def test_len_truth_and_repr(self):
        yard = Yard()
        self.assertEqual((len(yard), bool(yard), repr(yard)), (0, False, "Yard(0 machines)"))
        yard.put("a", ONE_BIG)
        self.assertEqual((len(yard), bool(yard), repr(yard)), (1, True, "Yard(1 machines)"))
        yard.put("b", ONE_BIG)
        self.assertEqual((len(yard), bool(yard), repr(yard)), (2, True, "Yard(2 machines)"))
        yard.put("b", EVENS)
        self.assertEqual(len(yard), 2)

    def test_equal(self):
        self.same(Yard(), Yard())
        self.same(yard_of(a=ONE_BIG, b=EVENS), yard_of(b=EVENS, a=ONE_BIG))
        other = yard_of(c=BARE, a=EVENS, b=EVENS)
        other.drop("c")
        other.put("a", ONE_BIG)
        other.compared("a", "b")
        self.same(yard_of(a=ONE_BIG, b=EVENS), other)
        for unlike in (Yard(), yard_of(a=ONE_BIG), yard_of(a=ONE_BIG, c=EVENS), yard_of(a=EVENS, b=ONE_BIG),
                       yard_of(a=ONE_BIG, b=EVENS, c=BARE), yard_of(a=least_of(ONE_BIG), b=EVENS)):
            self.unlike(other, unlike)
        for thing in anything() + [ONE_BIG, {"a": ONE_BIG}, repr(other), ["a", "b"]]:
            self.unlike(other, thing)
            self.unlike(Yard(), thing)

    def test_twin(self):
        yard = yard_of(a=ONE_BIG, b=EVENS)
        yard.compared("a", "b")
        yard.drop("b")
        twin = yard.twin()
        self.same(yard, twin)
        self.assertIsInstance(twin, Yard)
        self.assertEqual((twin.reckoned(), twin.asked()), (0, 0))
        twin.undo()
        twin.undo()
        self.assertEqual((twin.names(), yard.names()), (["a"], ["a"]))
        twin.undo()
        self.assertRaises(NoDeed, twin.undo)
        self.assertEqual((twin.names(), yard.names()), ([], ["a"]))
        yard.put("c", GUESSES)
        self.assertEqual(twin.names(), [])

    def test_a_twin_has_kept_nothing(self):
        yard = yard_of(a=ONE_BIG, b=EVENS)
        yard.compared("a", "b")
        twin = yard.twin()
        self.reckons(twin, 1, ("a", "b"), ("a", "b"))
        self.assertEqual((twin.reckoned(), yard.reckoned()), (1, 1))
        twin.put("a", GUESSES)
        self.reckons(yard, 0, ("a", "b"))
        self.assertEqual(yard.machine("a"), ONE_BIG)

    def test_yards_have_nothing_in_common(self):
        one, other = Yard(), Yard()
        one.put("a", ONE_BIG)
        self.assertEqual(other.names(), [])
        self.assertRaises(NoDeed, other.undo)


if __name__ == "__main__":
    unittest.main()
