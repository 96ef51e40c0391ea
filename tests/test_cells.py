"""Points [2], [3], [4] of cells, [30], [31] and [32]."""

import unittest

from sayarrows.cells import asks_of, cells_of, is_cut
from sayarrows.errors import NoGuards
from sayarrows.shapes import is_shape
from tests.helper import anything, by_order, met, nots, random_sayings, shape_by_search

ALL = ("1", 0, "", "1")
FROM_3 = ("from", 3)
EVEN = ("rest", 2, 0)
TWO = (FROM_3, EVEN)
TWO_CUT = (("01", 0), ("00", 1), ("10", 3), ("11", 4))


def groups(seed, many, most=8):
    sayings = random_sayings(seed, many * most)
    return [tuple(sayings[at * most:at * most + at % (most + 1)]) for at in range(many)]


def marks_of(guards, letter):
    return "".join("1" if met(guard, letter) else "0" for guard in guards)


def cells_by_search(guards):
    """For each marks that some letter has the least one, in order; all letters are as one from -250 to 250."""
    found = {}
    for letter in by_order(range(-250, 251)):
        found.setdefault(marks_of(guards, letter), letter)
    return list(found.items())


def asks_by_search(guards):
    many = [len(cells_by_search(guards[:at])) for at in range(len(guards))]
    return 2 * sum(many)


class CellsOf(unittest.TestCase):
    def test_no_guard(self):
        self.assertEqual(cells_of(()), [("", ALL, 0)])

    def test_one_guard(self):
        self.assertEqual(cells_of((FROM_3,)), [("0", ("1", 3, "", "0"), 0), ("1", ("0", 3, "", "1"), 3)])
        low = ("to", -1)
        self.assertEqual(cells_of((low,)), [("0", ("0", 0, "", "1"), 0), ("1", ("1", 0, "", "0"), -1)])

    def test_two_guards(self):
        expected = [
            ("01", ("10", 4, "", "0"), 0),
            ("00", ("01", 3, "", "0"), 1),
            ("10", ("0", 3, "", "01"), 3),
            ("11", ("0", 4, "", "10"), 4),
        ]
        self.assertEqual(cells_of(TWO), expected)

    def test_the_order_goes_by_the_least_letters(self):
        guards = (("from", 1), ("to", -1), ("from", 2))
        self.assertEqual([(marks, letter) for marks, shape, letter in cells_of(guards)],
                         [("000", 0), ("100", 1), ("010", -1), ("101", 2)])

    def test_guards_that_are_alike(self):
        cells = [("000", ("1", 3, "", "0"), 0), ("111", ("0", 3, "", "1"), 3)]
        self.assertEqual(cells_of((FROM_3,) * 3), cells)
        self.assertEqual(cells_of((FROM_3, ("not", ("to", 2)), ("0", 3, "", "1"))), cells)

    def test_that_nothing_fits_and_that_all_letters_fit(self):
        self.assertEqual(cells_of((("none",),)), [("0", ALL, 0)])
        self.assertEqual(cells_of((("all",),)), [("1", ALL, 0)])
        self.assertEqual(cells_of((("all",), ("none",), ("all",))), [("101", ALL, 0)])

    def test_sayings_and_shapes(self):
        self.assertEqual(cells_of((("0", 3, "", "1"), EVEN)), cells_of(TWO))
        self.assertEqual(cells_of((FROM_3, ("10", 0, "", "10"))), cells_of(TWO))
        self.assertEqual([cell[2] for cell in cells_of((("0", 99999, "", "1"), ("1", -99999, "", "0")))],
                         [0, 99999, -100000])

    def test_eight_guards(self):
        guards = tuple(("from", bound) for bound in range(8))
        cells = cells_of(guards)
        self.assertEqual([(marks, letter) for marks, shape, letter in cells],
                         [("10000000", 0), ("11000000", 1), ("00000000", -1)]
                         + [("1" * (n + 1) + "0" * (7 - n), n) for n in range(2, 8)])

    def test_eight_guards_of_many_cells(self):
        half = ("either", ("rest", 4, 2), ("rest", 4, 3))
        guards = (("rest", 2, 0), half, ("rest", 3, 0), ("rest", 5, 0), ("from", 0), ("to", 60), ("from", -60),
                  ("rest", 6, 5))
        cells = cells_of(guards)
        self.assertEqual([(marks, letter) for marks, shape, letter in cells], cells_by_search(guards))
        self.assertEqual(len(cells), (16 + 4) * 4)

    def test_by_search(self):
        for guards in groups(30, 45):
            cells = cells_of(guards)
            self.assertEqual([(marks, letter) for marks, shape, letter in cells], cells_by_search(guards))
            for marks, shape, letter in cells:
                self.assertIs(is_shape(shape), True)
                self.assertEqual(shape, shape_by_search(lambda n: marks_of(guards, n) == marks))

    def test_the_list_is_new(self):
        found = cells_of(TWO)
        self.assertIsInstance(found, list)
        found.clear()
        self.assertEqual(len(cells_of(TWO)), 4)

    def test_the_same_again(self):
        self.assertEqual(cells_of(TWO), cells_of(TWO))

    def test_refused(self):
        refuses_guards(self, cells_of)

    def test_by_name(self):
        self.assertEqual(cells_of(guards=()), [("", ALL, 0)])


def refuses_guards(case, function):
    wrong = [thing for thing in anything() if thing != ()]
    wrong += [("all",), ("0", 3, "", "1"), [FROM_3], list(TWO), (FROM_3,) * 9, (("all",),) * 9, (FROM_3, None)]
    wrong += [(FROM_3, ["all"]), (("from", 100),), (nots(31),), (("1", 3, "", "1"),), (FROM_3, ()), ((FROM_3,),)]
    for thing in wrong:
        if thing == (("all",),):
            continue
        with case.subTest(thing):
            case.assertRaises(NoGuards, function, thing)


class AsksOf(unittest.TestCase):
    def test_guard_by_guard(self):
        self.assertEqual(asks_of(()), 0)
        self.assertEqual(asks_of((FROM_3,)), 2)
        self.assertEqual(asks_of(TWO), 2 + 4)
        self.assertEqual(asks_of(TWO + (("to", -1),)), 2 + 4 + 8)
        self.assertEqual(asks_of((FROM_3, FROM_3, FROM_3)), 2 + 4 + 4)

    def test_that_nothing_fits_and_that_all_letters_fit(self):
        self.assertEqual(asks_of((("none",),) * 8), 16)
        self.assertEqual(asks_of((("all",), FROM_3, ("none",))), 2 + 2 + 4)
        self.assertEqual(asks_of((FROM_3, ("all",), ("none",))), 2 + 4 + 4)

    def test_the_order_of_the_guards_counts(self):
        last = ("from", 9)
        self.assertEqual(asks_of((FROM_3, last, EVEN)), 2 + 4 + 6)
        self.assertEqual(asks_of((FROM_3, EVEN, last)), 2 + 4 + 8)

    def test_shapes(self):
        self.assertEqual(asks_of((("0", 3, "", "1"), EVEN)), 6)

    def test_by_search(self):
        for guards in groups(31, 45):
            self.assertEqual(asks_of(guards), asks_by_search(guards))

    def test_the_same_again(self):
        self.assertEqual([asks_of(TWO) for _ in range(3)], [6, 6, 6])

    def test_refused(self):
        refuses_guards(self, asks_of)

    def test_by_name(self):
        self.assertEqual(asks_of(guards=TWO), 6)


class IsCut(unittest.TestCase):
    def yes(self, guards, *things):
        for thing in things:
            with self.subTest(thing):
                self.assertIs(is_cut(guards, thing), True)

    def no(self, guards, *things):
        for thing in things:
            with self.subTest(thing):
                self.assertIs(is_cut(guards, thing), False)

    def test_least_letters(self):
        self.yes(TWO, TWO_CUT)
        self.yes((), (("", 0),))
        for guards in groups(32, 30):
            self.yes(guards, tuple((marks, letter) for marks, shape, letter in cells_of(guards)))

    def test_other_letters_of_the_same_cell(self):
        self.yes(TWO, (("01", -200), ("00", -99), ("10", 999999), ("11", 10 ** 12 - 2)))
        self.yes((), (("", -12345),))

    def test_letters_of_another_cell(self):
        self.no(TWO, (("01", 0), ("00", 1), ("10", 4), ("11", 4)))
        self.no(TWO, (("01", 1), ("00", 0), ("10", 3), ("11", 4)))
        self.no(TWO, (("01", 4), ("00", 1), ("10", 3), ("11", 4)))

    def test_another_order(self):
        self.no(TWO, TWO_CUT[::-1], TWO_CUT[1:] + TWO_CUT[:1], (TWO_CUT[1], TWO_CUT[0]) + TWO_CUT[2:])
        self.no(TWO, tuple(sorted(TWO_CUT)))

    def test_one_less_and_one_more(self):
        self.no(TWO, TWO_CUT[:3], TWO_CUT[1:], TWO_CUT + TWO_CUT[3:], TWO_CUT[:1] + TWO_CUT, ())
        self.no((), (), (("", 0), ("", 0)))

    def test_other_marks(self):
        self.no(TWO, (("10", 0),) + TWO_CUT[1:], (("1", 0),) + TWO_CUT[1:], ((("0", "1"), 0),) + TWO_CUT[1:])
        self.no((), (("0", 0),), ((None, 0),), (((), 0),))
        self.no((("none",),), (("0", 0), ("1", 0)), (("1", 0),))

    def test_other_kinds(self):
        rest = TWO_CUT[1:]
        self.no(TWO, list(TWO_CUT), (list(TWO_CUT[0]),) + rest, tuple(list(part) for part in TWO_CUT), dict(TWO_CUT))
        self.no(TWO, (("01",),) + rest, (("01", 0, 0),) + rest, ("01",) + rest, (0,) + rest, (None,) + rest)
        self.no(TWO, (("01", "0"),) + rest, (("01", None),) + rest, (("01", (0,)),) + rest, (("01", [0]),) + rest)
        self.no(TWO, (("01", False),) + rest, (TWO_CUT[0], ("00", True)) + TWO_CUT[2:])
        self.no((), (("", False),), (("", True),), ("",), "")

    def test_of_anything(self):
        self.no(TWO, *anything())
        self.no((), *anything())
        self.no(TWO, tuple(cells_of(TWO)), cells_of(TWO))

    def test_shapes(self):
        self.yes((("0", 3, "", "1"), EVEN), TWO_CUT)

    def test_refused(self):
        refuses_guards(self, lambda thing: is_cut(thing, TWO_CUT))
        refuses_guards(self, lambda thing: is_cut(thing, None))

    def test_by_name(self):
        self.assertIs(is_cut(thing=TWO_CUT, guards=TWO), True)


if __name__ == "__main__":
    unittest.main()
