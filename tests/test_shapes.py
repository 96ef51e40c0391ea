"""Points [2], [3], [4] of shapes, [20] and [21]."""

import itertools
import random
import unittest

from sayarrows.errors import NoGuard, NoLetter, NoShape
from sayarrows.shapes import (
    all_others, has_letter, in_both, in_either, is_shape, least_letter, many_letters, moved_on, shape_of,
)
from tests.helper import anything, by_order, is_number, nots, random_sayings, met, shape_by_search, told

FAR = 10 ** 12 - 1
ALL = ("1", 0, "", "1")
NONE = ("0", 0, "", "0")
EVEN = ("10", 0, "", "10")
FROM_3 = ("0", 3, "", "1")
BUT_0 = ("1", 0, "0", "1")
ONLY_7 = ("0", 7, "1", "0")
ONLY_MINUS_7 = ("0", -7, "1", "0")
MIXED = ("100", -5, "11", "01")

SHAPES = (ALL, NONE, EVEN, FROM_3, BUT_0, ONLY_7, ONLY_MINUS_7, MIXED)


def by_chance(seed, many):
    return [shape_of(saying) for saying in random_sayings(seed, many)]


class ShapeOf(unittest.TestCase):
    def test_those_the_document_writes_out(self):
        self.assertEqual(shape_of(("from", 3)), ("0", 3, "", "1"))
        self.assertEqual(shape_of(("either", ("to", -1), ("from", 1))), ("1", 0, "0", "1"))
        self.assertEqual(shape_of(("rest", 2, 0)), ("10", 0, "", "10"))

    def test_each_form(self):
        self.assertEqual(shape_of(("all",)), ALL)
        self.assertEqual(shape_of(("none",)), NONE)
        self.assertEqual(shape_of(("from", -99)), ("0", -99, "", "1"))
        self.assertEqual(shape_of(("to", 99)), ("1", 100, "", "0"))
        self.assertEqual(shape_of(("to", -4)), ("1", -3, "", "0"))
        self.assertEqual(shape_of(("rest", 6, 5)), ("000001", 0, "", "000001"))
        self.assertEqual(shape_of(("not", ("from", 3))), ("1", 3, "", "0"))
        self.assertEqual(shape_of(("both", ("from", 7), ("to", 7))), ONLY_7)
        self.assertEqual(shape_of(("either", ("to", 6), ("from", 8))), ("1", 7, "0", "1"))

    def test_the_shortest_left_and_right(self):
        six = ("both", ("rest", 2, 1), ("rest", 3, 1))
        self.assertEqual(shape_of(six), ("010000", 0, "", "010000"))
        even_by_four = ("either", ("rest", 4, 0), ("rest", 4, 2))
        self.assertEqual(shape_of(even_by_four), EVEN)
        halves = ("either", ("both", ("to", -1), even_by_four), ("both", ("from", 0), ("rest", 3, 2)))
        self.assertEqual(shape_of(halves), ("10", 0, "", "001"))
        sixty = ("both", ("rest", 5, 0), ("both", ("rest", 4, 0), ("rest", 3, 0)))
        self.assertEqual(shape_of(sixty), ("1" + "0" * 59, 0, "", "1" + "0" * 59))

    def test_low_is_the_greatest_below_which_all_is_as_left_tells(self):
        self.assertEqual(shape_of(("both", ("rest", 2, 0), ("to", 5))), ("10", 6, "", "0"))
        self.assertEqual(shape_of(("both", ("rest", 2, 0), ("to", 4))), ("10", 6, "", "0"))
        self.assertEqual(shape_of(("both", ("rest", 2, 0), ("from", 3))), ("0", 4, "", "10"))
        self.assertEqual(shape_of(("both", ("rest", 6, 5), ("from", 6))), ("0", 11, "", "000001"))

    def test_the_shortest_middle(self):
        two = ("either", ("both", ("from", 2), ("to", 2)), ("both", ("from", 5), ("to", 5)))
        self.assertEqual(shape_of(two), ("0", 2, "1001", "0"))
        self.assertEqual(shape_of(("either", two, ("from", 7))), ("0", 2, "10010", "1"))
        self.assertEqual(shape_of(("either", two, ("both", ("from", 7), ("rest", 2, 1)))), ("0", 2, "10", "01"))

    def test_no_low_of_its_own_where_all_is_told_by_left(self):
        self.assertEqual(shape_of(("either", ("from", 3), ("to", 2))), ALL)
        self.assertEqual(shape_of(("both", ("from", 3), ("to", 2))), NONE)
        even = ("either", ("both", ("rest", 2, 0), ("from", 50)), ("both", ("rest", 2, 0), ("to", 49)))
        self.assertEqual(shape_of(even), EVEN)

    def test_one_shape_for_sayings_of_the_same_set(self):
        ways = [
            ("from", 3), ("not", ("to", 2)), ("both", ("from", 3), ("all",)), ("either", ("none",), ("from", 3)),
            ("not", ("not", ("from", 3))), ("both", ("from", 3), ("from", -99)),
            ("either", ("both", ("from", 3), ("rest", 2, 0)), ("both", ("rest", 2, 1), ("from", 2))),
        ]
        self.assertEqual({shape_of(way) for way in ways}, {FROM_3})

    def test_by_search(self):
        for saying in random_sayings(20, 120) + random_sayings(21, 40, tuples=30):
            with self.subTest(saying):
                shape = shape_of(saying)
                self.assertEqual(shape, shape_by_search(lambda letter: met(saying, letter)))
                self.assertIs(is_shape(shape), True)

    def test_of_a_shape(self):
        for shape in SHAPES:
            self.assertEqual(shape_of(shape), shape)

    def test_no_guard(self):
        for thing in anything() + [nots(31), ("from", 100), ("1", 3, "", "1"), ["all"], list(FROM_3)]:
            with self.subTest(thing):
                self.assertRaises(NoGuard, shape_of, thing)

    def test_by_name(self):
        self.assertEqual(shape_of(guard=("all",)), ALL)


class IsShape(unittest.TestCase):
    def yes(self, *things):
        for thing in things:
            with self.subTest(thing):
                self.assertIs(is_shape(thing), True)

    def no(self, *things):
        for thing in things:
            with self.subTest(thing):
                self.assertIs(is_shape(thing), False)

    def test_shapes(self):
        self.yes(*SHAPES)
        self.yes(*by_chance(22, 60))

    def test_others_of_the_same_set(self):
        self.no(("00", 3, "", "1"), ("0", 3, "", "11"), ("0", 3, "1", "1"), ("0", 2, "0", "1"), ("0", 2, "01", "1"))
        self.no(("1", 3, "", "1"), ("1", -1, "", "1"), ("1", 0, "1", "1"), ("0", 0, "0", "0"))
        self.no(("10", 1, "", "10"), ("10", 0, "1", "10"), ("1010", 0, "", "10"), ("10", 0, "", "1010"))
        self.no(("1", -1, "10", "1"), ("1", 0, "01", "1"), ("11", 0, "0", "1"))
        self.no(("10", 5, "", "0"), ("0", 3, "", "10"), ("0", 3, "0", "10"), ("0", 4, "10", "10"))

    def test_small_ones_by_search(self):
        sides = ["".join(signs) for size in (1, 2, 3) for signs in itertools.product("01", repeat=size)]
        middles = ["".join(signs) for size in (0, 1, 2) for signs in itertools.product("01", repeat=size)]
        for left, right, middle, low in itertools.product(sides, sides, middles, (-2, 0, 1)):
            thing = (left, low, middle, right)
            self.assertIs(is_shape(thing), shape_by_search(lambda n: told(thing, n), far=6) == thing, thing)

    def test_lengths_divide_sixty(self):
        for size in range(1, 122):
            side = "1" + "0" * (size - 1)
            right = 60 % size == 0
            with self.subTest(size):
                self.assertIs(is_shape((side, 1, "1", "0")), right and size > 1)
                self.assertIs(is_shape(("0", 0, "11", side)), right and size > 1)
                self.assertIs(is_shape((side, 0, "", side)), right)

    def test_empty_left_or_right(self):
        self.no(("", 0, "", "1"), ("1", 0, "", ""), ("", 0, "", ""), ("", 3, "1", "0"))

    def test_other_signs(self):
        self.no(("2", 0, "", "1"), ("0", 3, "2", "1"), ("0", 3, "", "a"), ("0 ", 3, "", "1"), ("0", 3, "1 0", "1"))
        self.no(("0", 3, "0 ", "1"), ("0\n", 3, "", "1"), ("0", 3, ".", "1"))

    def test_other_kinds(self):
        self.no(list(FROM_3), (0, 3, "", "1"), ("0", "3", "", "1"), ("0", 3, None, "1"), ("0", 3, "", 1))
        self.no(("0", True, "", "1"), ("0", False, "", "1"), ("1", False, "", "1"), ("0", None, "", "1"))
        self.no((("0",), 3, "", "1"), ("0", 3, (), "1"), ("0", 3, "", ["1"]), ("0", 3, [], "1"), ({}, 3, "", "1"))
        self.no(("0", 3, ""), ("0", 3, "", "1", ""), ())
        self.no(*anything())
        self.no(("all",), ("from", 3))

    def test_lows_up_to_the_bound(self):
        self.yes(("0", 99999, "", "1"), ("0", -99999, "", "1"), ("1", 99999, "0" * 300, "1"))

    def test_what_was_told_with_a_low_far_out(self):
        shape = FROM_3
        for _ in range(30):
            shape = moved_on(shape, 9999)
        self.assertEqual(shape, ("0", 3 + 30 * 9999, "", "1"))
        self.yes(shape)
        self.assertIs(has_letter(shape, 3 + 30 * 9999), True)
        self.assertEqual(in_both(shape, all_others(moved_on(shape, 1))), ("0", 3 + 30 * 9999, "1", "0"))

    def test_by_name(self):
        self.assertIs(is_shape(thing=FROM_3), True)


class HasLetter(unittest.TestCase):
    def test_ordinary(self):
        self.assertEqual([has_letter(FROM_3, n) for n in (2, 3, 4)], [False, True, True])
        self.assertEqual([has_letter(BUT_0, n) for n in (-1, 0, 1)], [True, False, True])
        self.assertEqual([has_letter(EVEN, n) for n in (-2, -1, 0, 1, 2)], [True, False, True, False, True])
        self.assertIs(has_letter(ALL, 0), True)
        self.assertIs(has_letter(NONE, 0), False)

    def test_left_middle_right(self):
        found = "".join("1" if has_letter(MIXED, n) else "0" for n in range(-12, 4))
        self.assertEqual(found, "1001001" + "11" + "1010101")

    def test_by_the_words_of_the_document(self):
        for shape in by_chance(23, 60):
            for letter in range(-230, 231):
                self.assertIs(has_letter(shape, letter), told(shape, letter))

    def test_far_out(self):
        self.assertEqual([has_letter(EVEN, n) for n in (FAR, FAR - 1, -FAR, 1 - FAR)], [False, True, False, True])
        self.assertEqual([has_letter(FROM_3, n) for n in (FAR, -FAR)], [True, False])
        self.assertEqual([has_letter(MIXED, n) for n in (FAR, FAR - 1)], [True, False])
        self.assertEqual([has_letter(MIXED, n) for n in (-FAR, -FAR + 1)], [True, False])

    def test_refused(self):
        refuses_shapes(self, has_letter, 0)
        refuses_letters(self, lambda thing: has_letter(FROM_3, thing))
        self.assertRaises(NoShape, has_letter, ("from", 3), True)
        self.assertRaises(NoShape, lambda: has_letter(letter=None, shape=None))

    def test_by_name(self):
        self.assertIs(has_letter(letter=3, shape=FROM_3), True)


def refuses_shapes(case, function, *more):
    for thing in anything() + [("all",), ("from", 3), ("1", 3, "", "1"), ("00", 3, "", "1"), list(FROM_3)]:
        with case.subTest(thing):
            case.assertRaises(NoShape, function, thing, *more)


def refuses_letters(case, function):
    for thing in anything() + [("all",), FROM_3]:
        if not is_number(thing):
            with case.subTest(thing):
                case.assertRaises(NoLetter, function, thing)


class PutTogether(unittest.TestCase):
    def check(self, shape, has):
        self.assertIs(is_shape(shape), True)
        self.assertEqual(shape, shape_by_search(has))

    def test_all_others(self):
        self.assertEqual(all_others(ALL), NONE)
        self.assertEqual(all_others(NONE), ALL)
        self.assertEqual(all_others(EVEN), ("01", 0, "", "01"))
        self.assertEqual(all_others(FROM_3), ("1", 3, "", "0"))
        self.assertEqual(all_others(ONLY_7), ("1", 7, "0", "1"))
        for shape in SHAPES + tuple(by_chance(24, 40)):
            self.check(all_others(shape), lambda n: not told(shape, n))
            self.assertEqual(all_others(all_others(shape)), shape)

    def test_in_both(self):
        self.assertEqual(in_both(ALL, NONE), NONE)
        self.assertEqual(in_both(ALL, ALL), ALL)
        self.assertEqual(in_both(ONLY_7, ALL), ONLY_7)
        self.assertEqual(in_both(ONLY_7, EVEN), NONE)
        self.assertEqual(in_both(ONLY_7, ONLY_MINUS_7), NONE)
        self.assertEqual(in_both(FROM_3, EVEN), ("0", 4, "", "10"))
        by_four, by_six = shape_of(("rest", 4, 3)), shape_of(("rest", 6, 5))
        self.assertEqual(in_both(by_four, by_six), ("0" * 11 + "1", 0, "", "0" * 11 + "1"))

    def test_in_either(self):
        self.assertEqual(in_either(ALL, NONE), ALL)
        self.assertEqual(in_either(NONE, NONE), NONE)
        self.assertEqual(in_either(ONLY_7, NONE), ONLY_7)
        self.assertEqual(in_either(ONLY_7, ONLY_MINUS_7), ("0", -7, "1" + "0" * 13 + "1", "0"))
        self.assertEqual(in_either(EVEN, all_others(EVEN)), ALL)
        self.assertEqual(in_either(BUT_0, ("0", 0, "1", "0")), ALL)

    def test_each_two_by_search(self):
        shapes = SHAPES + tuple(by_chance(25, 8))
        for one, other in itertools.product(shapes, shapes):
            self.check(in_both(one, other), lambda n: told(one, n) and told(other, n))
            self.check(in_either(one, other), lambda n: told(one, n) or told(other, n))

    def test_lows_at_both_bounds(self):
        low, high = ("0", -99999, "", "1"), ("1", 99999, "", "0")
        between = in_both(low, high)
        self.assertEqual(between, ("0", -99999, "1" * 199998, "0"))
        self.assertIs(is_shape(between), True)
        self.assertEqual(in_either(low, high), ALL)
        self.assertEqual(in_either(all_others(low), all_others(high)), all_others(between))
        self.assertEqual(in_both(("0", 99999, "", "1"), EVEN), ("0", 100000, "", "10"))

    def test_refused(self):
        refuses_shapes(self, all_others)
        for function in (in_both, in_either):
            refuses_shapes(self, function, FROM_3)
            refuses_shapes(self, lambda thing: function(FROM_3, thing))

    def test_by_name(self):
        self.assertEqual(all_others(shape=ALL), NONE)
        self.assertEqual(in_both(other=FROM_3, one=ALL), FROM_3)
        self.assertEqual(in_either(other=FROM_3, one=NONE), FROM_3)

    def test_the_same_again_and_nothing_changed(self):
        self.assertEqual([in_either(MIXED, ONLY_7) for _ in range(3)], [in_either(MIXED, ONLY_7)] * 3)
        self.assertEqual(MIXED, ("100", -5, "11", "01"))


class MovedOn(unittest.TestCase):
    def test_ordinary(self):
        self.assertEqual(moved_on(FROM_3, 4), ("0", 7, "", "1"))
        self.assertEqual(moved_on(BUT_0, -2), ("1", -2, "0", "1"))
        self.assertEqual(moved_on(EVEN, 1), ("01", 0, "", "01"))
        self.assertEqual(moved_on(EVEN, 2), EVEN)
        self.assertEqual(moved_on(shape_of(("rest", 6, 5)), 2), shape_of(("rest", 6, 1)))
        self.assertEqual(moved_on(shape_of(("rest", 6, 1)), -2), shape_of(("rest", 6, 5)))

    def test_sets_with_no_place_stay(self):
        for by in (-9999, -1, 0, 1, 7, 9999):
            self.assertEqual(moved_on(ALL, by), ALL)
            self.assertEqual(moved_on(NONE, by), NONE)

    def test_by_search(self):
        for shape in SHAPES + tuple(by_chance(26, 20)):
            for by in (-61, -60, -7, -1, 0, 1, 2, 13, 59):
                found = moved_on(shape, by)
                self.assertEqual(found, shape_by_search(lambda n: told(shape, n - by)))
                self.assertIs(is_shape(found), True)
                self.assertEqual(moved_on(found, -by), shape)

    def test_bounds(self):
        self.assertEqual(moved_on(ONLY_7, 9999), ("0", 10006, "1", "0"))
        self.assertEqual(moved_on(ONLY_7, -9999), ("0", -9992, "1", "0"))
        self.assertEqual(moved_on(EVEN, 9999), ("01", 0, "", "01"))
        self.assertEqual(moved_on(EVEN, -9999), ("01", 0, "", "01"))
        for by in (10000, -10000, FAR, -FAR):
            self.assertRaises(NoLetter, moved_on, ONLY_7, by)

    def test_refused(self):
        refuses_shapes(self, moved_on, 1)
        refuses_letters(self, lambda thing: moved_on(FROM_3, thing))
        self.assertRaises(NoShape, moved_on, ("from", 3), 10000)
        self.assertRaises(NoShape, moved_on, None, None)

    def test_by_name(self):
        self.assertEqual(moved_on(by=1, shape=FROM_3), ("0", 4, "", "1"))


class LeastLetter(unittest.TestCase):
    def test_ordinary(self):
        found = [least_letter(shape) for shape in (ALL, EVEN, FROM_3, BUT_0, ONLY_7, ONLY_MINUS_7)]
        self.assertEqual(found, [0, 0, 3, 1, 7, -7])

    def test_empty(self):
        self.assertIsNone(least_letter(NONE))

    def test_of_one_size_the_one_above_nought(self):
        self.assertEqual(least_letter(in_either(ONLY_7, ONLY_MINUS_7)), 7)
        self.assertEqual(least_letter(("1", -6, "0000000000000", "1")), 7)
        self.assertEqual(least_letter(("1", -5, "000000000000", "1")), -6)
        self.assertEqual(least_letter(("1", -6, "000000000000", "1")), 6)

    def test_only_to_one_side(self):
        self.assertEqual(least_letter(("1", -50, "", "0")), -51)
        self.assertEqual(least_letter(("0", -50, "", "1")), 0)
        self.assertEqual(least_letter(("100", -48, "", "0")), -51)
        self.assertEqual(least_letter(("0", 50, "", "001")), 50)
        self.assertEqual(least_letter(shape_of(("rest", 6, 5))), -1)
        self.assertEqual(least_letter(shape_of(("rest", 6, 3))), 3)

    def test_far_out(self):
        self.assertEqual(least_letter(("0", 99999, "1", "0")), 99999)
        self.assertEqual(least_letter(("0", -99999, "1", "0")), -99999)
        self.assertEqual(least_letter(("1", -99999, "", "0")), -100000)
        self.assertEqual(least_letter(("0", 99999, "", "1")), 99999)

    def test_by_search(self):
        around = by_order(range(-300, 301))
        for shape in SHAPES + tuple(by_chance(27, 150)):
            expected = next((n for n in around if told(shape, n)), None)
            self.assertEqual(least_letter(shape), expected, shape)

    def test_refused(self):
        refuses_shapes(self, least_letter)

    def test_by_name(self):
        self.assertEqual(least_letter(shape=FROM_3), 3)


class ManyLetters(unittest.TestCase):
    def test_ordinary(self):
        self.assertEqual(many_letters(ALL, 2, 5), 4)
        self.assertEqual(many_letters(NONE, -5, 5), 0)
        self.assertEqual(many_letters(EVEN, -2, 2), 3)
        self.assertEqual(many_letters(FROM_3, 3, 3), 1)
        self.assertEqual(many_letters(FROM_3, 2, 2), 0)
        self.assertEqual(many_letters(BUT_0, -1, 1), 2)
        self.assertEqual(many_letters(ONLY_7, -FAR, FAR), 1)

    def test_none_where_the_second_is_less(self):
        for shape in SHAPES:
            self.assertEqual(many_letters(shape, 5, 4), 0)
            self.assertEqual(many_letters(shape, 30, -30), 0)
            self.assertEqual(many_letters(shape, -10, -11), 0)
            self.assertEqual(many_letters(shape, FAR, -FAR), 0)

    def test_across_left_middle_and_right(self):
        chance = random.Random(28)
        for shape in SHAPES + tuple(by_chance(29, 60)):
            for _ in range(30):
                low = chance.randint(-150, 150)
                high = low + chance.choice((0, 1, 5, 61, 200))
                expected = sum(told(shape, n) for n in range(low, high + 1))
                self.assertEqual(many_letters(shape, low, high), expected, (shape, low, high))

    def test_each_small_range_of_one(self):
        for low, high in itertools.product(range(-12, 6), repeat=2):
            expected = sum(told(MIXED, n) for n in range(low, high + 1))
            self.assertEqual(many_letters(MIXED, low, high), expected)

    def test_far_out(self):
        self.assertEqual(many_letters(ALL, -FAR, FAR), 2 * FAR + 1)
        self.assertEqual(many_letters(EVEN, -FAR, FAR), FAR)
        self.assertEqual(many_letters(FROM_3, -FAR, FAR), FAR - 2)
        self.assertEqual(many_letters(EVEN, FAR - 4, FAR), 2)
        self.assertEqual(many_letters(EVEN, -FAR, 4 - FAR), 2)
        self.assertEqual(many_letters(shape_of(("rest", 6, 5)), -600000000001, 600000000000), 200000000001)
        self.assertEqual(many_letters(("0", 99999, "1", "0"), 99999, FAR), 1)

    def test_refused(self):
        refuses_shapes(self, many_letters, 0, 0)
        refuses_letters(self, lambda thing: many_letters(FROM_3, thing, 0))
        refuses_letters(self, lambda thing: many_letters(FROM_3, 0, thing))
        refuses_letters(self, lambda thing: many_letters(FROM_3, thing, thing))
        self.assertRaises(NoShape, many_letters, None, None, None)
        self.assertRaises(NoShape, many_letters, ("from", 3), 0, True)

    def test_by_name(self):
        self.assertEqual(many_letters(high=5, low=2, shape=FROM_3), 3)


if __name__ == "__main__":
    unittest.main()
