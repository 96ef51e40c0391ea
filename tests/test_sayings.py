"""Points [2], [3], [4] of sayings and words, [10] and [11]."""

import copy
import random
import unittest

from sayarrows.errors import NoLetter, NoSaying, NoWord
from sayarrows.sayings import fits, is_saying, ordered
from tests.helper import anything, by_order, deep, is_number, met, nots, random_sayings, wide

FAR = 10 ** 12 - 1


class IsSaying(unittest.TestCase):
    def yes(self, *things):
        for thing in things:
            with self.subTest(thing):
                self.assertIs(is_saying(thing), True)

    def no(self, *things):
        for thing in things:
            with self.subTest(thing):
                self.assertIs(is_saying(thing), False)

    def test_each_form(self):
        self.yes(("all",), ("none",), ("from", 3), ("to", -3), ("rest", 6, 5), ("not", ("all",)))
        self.yes(("both", ("all",), ("none",)), ("either", ("from", 0), ("not", ("to", 4))))

    def test_bounds(self):
        for word in ("from", "to"):
            self.yes((word, -99), (word, 0), (word, 99))
            self.no((word, -100), (word, 100), (word, FAR), (word, -FAR))

    def test_divisors_and_remainders(self):
        for divisor in range(-1, 9):
            for remainder in range(-2, 10):
                right = 2 <= divisor <= 6 and 0 <= remainder < divisor
                with self.subTest((divisor, remainder)):
                    self.assertIs(is_saying(("rest", divisor, remainder)), right)

    def test_truths_are_no_numbers(self):
        self.no(("from", True), ("from", False), ("to", True), ("to", False))
        self.no(("rest", 2, True), ("rest", 2, False), ("rest", True, 0), ("rest", False, 0))

    def test_other_things_are_no_numbers(self):
        for thing in ("3", None, (3,), [3], {3: 3}):
            self.no(("from", thing), ("to", thing), ("rest", thing, 0), ("rest", 3, thing))

    def test_lists_are_no_tuples(self):
        self.no(["all"], ["from", 3], ["rest", 2, 0], ["not", ("all",)], ("not", ["all"]))
        self.no(["both", ("all",), ("all",)], ("both", ["all"], ("all",)), ("both", ("all",), ["all"]))
        self.no(("either", ["all"], ("all",)), ("either", ("all",), ["all"]), ("not", ("not", ["none"])))

    def test_parts_too_few_or_too_many(self):
        one = ("all",)
        self.no((), ("all", 1), ("all", one), ("none", None), ("none", 0))
        self.no(("from",), ("from", 1, 1), ("to",), ("to", 1, 1))
        self.no(("rest",), ("rest", 2), ("rest", 2, 1, 1))
        self.no(("not",), ("not", one, one), ("both",), ("both", one), ("both", one, one, one))
        self.no(("either",), ("either", one), ("either", one, one, one))

    def test_other_words(self):
        self.no(("any",), ("All",), ("all ",), ("",), ("from ", 3), ("rests", 2, 1), ("and", ("all",), ("all",)))
        self.no((None,), (0,), (True,), (("all",),), (["all"],), ({"all": 1},), ([], 3), ({}, 3))

    def test_wrong_ones_within(self):
        self.no(("not", "all"), ("not", None), ("not", ()), ("not", ("from", 100)))
        self.no(("both", ("all",), 1), ("both", 1, ("all",)), ("either", ("rest", 2, 2), ("all",)))
        self.no(("either", ("all",), ("not", ("not", ("to", True)))))

    def test_thirty_tuples_and_thirty_one(self):
        self.yes(nots(30), wide(29), ("not", wide(29)))
        self.no(nots(31), wide(31), ("not", nots(30)), nots(40))

    def test_each_tuple_counts_as_often_as_it_stands(self):
        seven = wide(7)
        fifteen = ("both", seven, seven)
        self.yes(fifteen, ("either", seven, fifteen), ("either", nots(14), fifteen))
        self.no(("both", fifteen, fifteen), ("either", fifteen, nots(15)), ("either", nots(15), fifteen))

    def test_of_anything(self):
        self.no(*anything())
        self.no(deep(tuple, 39, ("all",)), deep(list, 40, ("all",)), ("not", deep(tuple, 38, "all")))
        self.no(("0", 3, "", "1"), ("1", 0, "", "1"))

    def test_one_that_stands_in_itself_very_often(self):
        saying = ("all",)
        for _ in range(40):
            saying = ("both", saying, saying)
        self.no(saying)


class Fits(unittest.TestCase):
    def check(self, saying, yes, no):
        for letter in yes:
            self.assertIs(fits(saying, letter), True, (saying, letter))
        for letter in no:
            self.assertIs(fits(saying, letter), False, (saying, letter))

    def test_all_and_none(self):
        letters = (0, 1, -1, FAR, -FAR)
        self.check(("all",), letters, ())
        self.check(("none",), (), letters)

    def test_from_and_to(self):
        self.check(("from", 3), (3, 4, FAR), (2, 0, -3, -FAR))
        self.check(("to", 3), (3, 2, 0, -FAR), (4, FAR))
        self.check(("from", -99), (-99, 0), (-100,))
        self.check(("to", -99), (-99, -100), (-98, 0))
        self.check(("from", 99), (99, 100), (98,))
        self.check(("to", 99), (99, 98), (100,))

    def test_rest_of_letters_on_both_sides_of_nought(self):
        self.check(("rest", 6, 5), (5, -1, -7, 11), (0, 1, -5, -6, 6))
        self.check(("rest", 2, 1), (1, -1, -3, FAR, -FAR), (0, 2, -2, FAR - 1))
        self.check(("rest", 5, 3), (3, -2, -7), (-3, 2, -8, 0))
        for divisor in range(2, 7):
            for remainder in range(divisor):
                for times in range(-4, 5):
                    for more in range(divisor):
                        found = fits(("rest", divisor, remainder), times * divisor + more)
                        self.assertIs(found, more == remainder)

    def test_not_both_either(self):
        low, even = ("to", 0), ("rest", 2, 0)
        self.check(("not", low), (1, FAR), (0, -FAR))
        self.check(("both", low, even), (0, -2), (-1, 2, 1))
        self.check(("either", low, even), (0, -2, -1, 2), (1, 3))

    def test_by_the_words_of_the_document(self):
        for saying in random_sayings(10, 150, tuples=30):
            for letter in list(range(-110, 111, 3)) + [10 ** 6, -10 ** 6, 10 ** 6 + 17]:
                self.assertIs(fits(saying, letter), met(saying, letter), (saying, letter))

    def test_the_deepest_saying(self):
        self.check(nots(30), (), (0, 5))
        self.check(nots(29), (0, 5), ())

    def test_no_saying(self):
        for thing in anything() + [("from", 100), nots(31), ("1", 0, "", "1"), ["all"]]:
            with self.subTest(thing):
                self.assertRaises(NoSaying, fits, thing, 0)

    def test_no_letter(self):
        for thing in anything():
            if not is_number(thing):
                with self.subTest(thing):
                    self.assertRaises(NoLetter, fits, ("all",), thing)
        self.assertRaises(NoLetter, fits, ("all",), ("all",))

    def test_the_left_one_first(self):
        self.assertRaises(NoSaying, fits, ("from", 100), True)
        self.assertRaises(NoSaying, fits, None, None)
        self.assertRaises(NoSaying, lambda: fits(letter=None, saying=None))
        self.assertRaises(NoLetter, fits, ("from", 99), True)

    def test_by_name(self):
        self.assertIs(fits(saying=("from", 3), letter=3), True)
        self.assertIs(fits(letter=2, saying=("from", 3)), False)
        self.assertIs(fits(("from", 3), letter=4), True)
        self.assertIs(is_saying(thing=("all",)), True)

    def test_the_same_again(self):
        saying = ("either", ("rest", 3, 1), ("from", 8))
        self.assertEqual([fits(saying, 4) for _ in range(3)], [True] * 3)
        self.assertEqual([is_saying(saying) for _ in range(3)], [True] * 3)


class Ordered(unittest.TestCase):
    def test_letters(self):
        letters = [-2, 2, -1, 1, 0, 3, -3]
        self.assertEqual(ordered([(n,) for n in letters]), [(n,) for n in (0, 1, -1, 2, -2, 3, -3)])
        self.assertEqual(ordered([(-FAR,), (FAR,), (FAR - 1,)]), [(FAR - 1,), (FAR,), (-FAR,)])

    def test_words_by_length_then_by_the_first_letter_that_differs(self):
        words = [(0, 0, 0), (5, 0), (-1, 9), (1, -9), (1, 9), (-7,), (), (1, 0), (0, 100)]
        expected = [(), (-7,), (0, 100), (1, 0), (1, 9), (1, -9), (-1, 9), (5, 0), (0, 0, 0)]
        self.assertEqual(ordered(words), expected)

    def test_many_words_by_the_words_of_the_document(self):
        chance = random.Random(11)
        words = [tuple(chance.randint(-3, 3) for _ in range(chance.randint(0, 4))) for _ in range(400)]
        found = ordered(words)
        places = {letter: place for place, letter in enumerate(by_order(range(-3, 4)))}
        self.assertEqual(found, sorted(words, key=lambda word: (len(word), [places[n] for n in word])))
        self.assertEqual(len(found), 400)

    def test_twins(self):
        self.assertEqual(ordered([(1,), (), (1,), ()]), [(), (), (1,), (1,)])

    def test_no_words_at_all(self):
        self.assertEqual(ordered([]), [])

    def test_words_of_thirty_letters(self):
        one, other = (1,) * 30, (1,) * 29 + (-1,)
        self.assertEqual(ordered([other, one]), [one, other])

    def test_the_list_is_new_and_the_one_handed_in_stays(self):
        for words in ([], [()], [(2,), (1,)], [(1,), (2,)]):
            before = copy.deepcopy(words)
            found = ordered(words)
            self.assertIsInstance(found, list)
            self.assertIsNot(found, words)
            found.append((9,))
            self.assertEqual(words, before)
            self.assertIsNot(ordered(words), ordered(words))
            self.assertEqual(ordered(words), ordered(before))

    def test_no_list_of_words(self):
        for thing in anything():
            if thing != []:
                with self.subTest(thing):
                    self.assertRaises(NoWord, ordered, thing)
        for thing in ((), ((1,),), [[1]], [(1,), 2], [(1, True)], [(False,)], [("1",)], [((1,),)], [None], [(1,), None]):
            with self.subTest(thing):
                self.assertRaises(NoWord, ordered, thing)
        self.assertRaises(NoWord, ordered, {(1,): 1})

    def test_by_name(self):
        self.assertEqual(ordered(words=[(2,), (1,)]), [(1,), (2,)])


if __name__ == "__main__":
    unittest.main()
