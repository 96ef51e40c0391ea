"""Points [2] to [4] of turners, [90], [91], and of [92] the turner of both."""

import copy
import itertools
import random
import unittest

from sayarrows.cells import cells_of
from sayarrows.errors import BadTurner, NoMachine, NoTurner, NoWord, SayError, TooMany
from sayarrows.machines import Machine, takes
from sayarrows.shapes import is_shape, moved_on, shape_of
from sayarrows.turners import Turner, turned_word, turner_of_both
from tests.helper import Equality, LETTERS, anything, fitting, nots, random_saying, shape_by_search, words_of

ALL = ("all",)
NONE = ("none",)
FROM_3 = ("from", 3)
TO_2 = ("to", 2)
FROM_3_SHAPE = ("0", 3, "", "1")
EVERY = ("1", 0, "", "1")
EVEN = ("rest", 2, 0)
ODD = ("rest", 2, 1)
GREAT = 10 ** 12 - 1
MORE_1 = ("more", 1)
PUT_0 = ("put", 0)

ONE = Turner(2, (1,), ((0, ALL, MORE_1, 1),))
SAME = Turner(1, (0,), ((0, ALL, ("more", 0), 0),))
UP = Turner(1, (0,), ((0, ALL, MORE_1, 0),))
DOWN = Turner(1, (0,), ((0, ALL, ("more", -1), 0),))
NAUGHTS = Turner(1, (0,), ((0, ALL, PUT_0, 0),))


def refuses_turners(case, function):
    """A function of a turner refuses all that is none."""
    machine = Machine(2, (1,), ((0, ALL, 1),))
    for thing in anything() + [(), (0,), (2, (1,), ()), [2, (1,), ()], {"many": 2}, repr(ONE), (ONE,), [ONE], machine]:
        with case.subTest(thing):
            case.assertRaises(NoTurner, function, thing)


def random_turner(chance, states, bound=4):
    """A turner of so many states: from each one some of the cells of a saying or two are led on."""
    arrows = []
    for state in range(states):
        sayings = tuple(random_saying(chance, chance.randint(1, 3)) for _ in range(chance.randint(0, 2)))
        for _, shape, _ in cells_of(sayings):
            if chance.random() < 0.85:
                turn = (chance.choice(("more", "more", "put")), chance.randint(-bound, bound))
                arrows.append((state, shape, turn, chance.randrange(states)))
    ends = tuple(sorted(chance.sample(range(states), chance.randint((states + 1) // 2, states))))
    return Turner(states, ends, tuple(chance.sample(arrows, len(arrows))))


def random_turners(seed, many, most_states=3):
    chance = random.Random(seed)
    return [random_turner(chance, chance.randint(1, most_states)) for _ in range(many)]


def way_by_search(turner, state, letter):
    """(turned letter, state) of a letter from a state, straight by the words of the document, None of none."""
    for start, guard, (word, number), to in turner.arrows:
        if start == state and fitting(guard, letter):
            return (number if word == "put" else letter + number), to
    return None


def turned_by_search(turner, word):
    state, letters = 0, []
    for letter in word:
        way = way_by_search(turner, state, letter)
        if way is None:
            return None
        letters.append(way[0])
        state = way[1]
    return tuple(letters) if state in turner.ends else None


class Made(unittest.TestCase):
    def bad(self, at, *parts):
        with self.subTest(parts=repr(parts)[:200]):
            with self.assertRaises(BadTurner) as caught:
                Turner(*parts)
            self.assertIs(type(caught.exception.at), int)
            self.assertEqual(caught.exception.at, at)
            self.assertIsInstance(caught.exception, SayError)

    def bad_arrow(self, arrow):
        fine = ((0, EVEN, MORE_1, 1),)
        self.bad(0, 2, (), (arrow,))
        self.bad(1, 2, (), fine + (arrow,))
        self.bad(1, 2, (), fine + (arrow, (1, ALL, MORE_1, 0), arrow, None))

    def test_the_three_are_its_values(self):
        arrows = ((0, FROM_3, MORE_1, 1), (1, FROM_3_SHAPE, PUT_0, 0), (0, TO_2, MORE_1, 1), (2, nots(29), PUT_0, 2))
        turner = Turner(3, (0, 2), arrows)
        self.assertEqual((turner.many, turner.ends, turner.arrows), (3, (0, 2), arrows))
        bare = Turner(1, (), ())
        self.assertEqual((bare.many, bare.ends, bare.arrows), (1, (), ()))

    def test_by_name(self):
        self.assertEqual(Turner(arrows=((0, ALL, MORE_1, 1),), many=2, ends=(1,)), ONE)
        self.assertEqual(Turner(2, ends=(1,), arrows=((0, ALL, MORE_1, 1),)), ONE)

    def test_many(self):
        for many in (1, 2, 39, 40):
            self.assertEqual(len(Turner(many, (), ())), many)
        for many in (0, 41, -1, GREAT, True, False, None, "1", (1,), [1], {}):
            self.bad(-2, many, (), ())
        for thing in anything():
            if thing != 1 or thing is True:
                self.bad(-2, thing, (), ())

    def test_ends(self):
        for ends in ((), (0,), (2,), (0, 1), (0, 1, 2)):
            self.assertEqual(Turner(3, ends, ()).ends, ends)
        wrong = [[], [0], (3,), (-1,), (0, 3), (1, 0), (0, 2, 1), (0, 0), (1, 1, 2), (True,), (0, True), (None,), ("0",)]
        for ends in wrong + [((0,),), 0, None, {0: 1}, (GREAT,)] + anything():
            self.bad(-1, 3, ends, ())

    def test_arrows_that_are_no_tuple(self):
        for arrows in [thing for thing in anything() if not isinstance(thing, tuple)] + [[(0, ALL, MORE_1, 1)], {}, []]:
            self.bad(0, 2, (), arrows)
        for arrows in [thing for thing in anything() if isinstance(thing, tuple)] + [(0, ALL, MORE_1, 1)]:
            self.bad(0, 2, (), arrows)

    def test_arrows_of_other_parts(self):
        for arrow in ((), (0,), (0, ALL, 1), (0, ODD, MORE_1), (0, ODD, MORE_1, 1, 1), [0, ODD, MORE_1, 1],
                      (0, MORE_1, ODD, 1), (0, ODD, 1, MORE_1), (ODD, 0, MORE_1, 1), None, 0, True, "", {}, [],
                      ((0, ODD, MORE_1, 1),), (0, ODD, "more", 1, 1)):
            self.bad_arrow(arrow)

    def test_states_of_arrows(self):
        for state in (2, -1, 40, GREAT, True, False, None, "0", (0,), [0], {}):
            self.bad_arrow((state, ODD, MORE_1, 1))
            self.bad_arrow((0, ODD, MORE_1, state))

    def test_guards_of_arrows(self):
        for guard in (ALL, NONE, ("from", -99), ("rest", 6, 5), nots(30), FROM_3_SHAPE):
            self.assertEqual(Turner(1, (), ((0, guard, MORE_1, 0),)).arrows, ((0, guard, MORE_1, 0),))
        wrong = ["all", ["all"], ("ALL",), ("from", 100), ("from", True), ("rest", 7, 0), nots(31), ("0", 3, "", "0"), ONE]
        for guard in wrong + anything():
            self.bad_arrow((0, guard, MORE_1, 1))

    def test_turns(self):
        for turn in (("more", 0), ("more", 9999), ("more", -9999), ("put", 0), ("put", 9999), ("put", -9999)):
            self.assertEqual(Turner(1, (), ((0, ALL, turn, 0),)).arrows, ((0, ALL, turn, 0),))
        wrong = [(word, number) for word in ("more", "put") for number in (10000, -10000, True, False, None, "1", (1,), GREAT)]
        wrong += [("less", 1), ("MORE", 1), ("", 1), (1, "more"), (None, 1), (["more"], 1), ("more",), ("put",), (), "more"]
        wrong += [("more", 1, 1), ("put", 1, None), ["more", 1], ["put", 1], {"more": 1}, 1, None, True, ("all",), ({}, 1)]
        for turn in wrong + anything():
            self.bad_arrow((0, ODD, turn, 1))

    def test_two_arrows_of_one_letter(self):
        for to in (0, 1):
            self.bad(1, 2, (), ((0, ALL, MORE_1, 1), (0, ALL, MORE_1, to)))
            self.bad(1, 2, (), ((0, FROM_3, MORE_1, 1), (0, ("to", 3), MORE_1, to)))
            self.bad(1, 2, (), ((0, FROM_3, MORE_1, 1), (0, FROM_3_SHAPE, PUT_0, to)))
            self.bad(2, 2, (), ((0, FROM_3, MORE_1, 1), (1, ALL, PUT_0, 1), (0, EVEN, MORE_1, to), (0, ALL, MORE_1, 1)))
            self.bad(2, 2, (), ((0, FROM_3, MORE_1, 1), (0, ("to", -3), MORE_1, 1), (0, ("rest", 6, 3), MORE_1, to)))
            self.bad(3, 2, (), ((0, FROM_3, MORE_1, 1), (0, ("to", -3), MORE_1, 1), (0, NONE, PUT_0, 0), (0, EVEN, PUT_0, to)))

    def test_guards_that_meet_nowhere(self):
        arrows = ((0, FROM_3, MORE_1, 1), (0, TO_2, MORE_1, 1), (1, EVEN, PUT_0, 0), (1, ODD, PUT_0, 0), (0, NONE, MORE_1, 0))
        self.assertEqual(Turner(2, (), arrows).arrows, arrows)
        far = moved_on(moved_on(FROM_3_SHAPE, 9999), 9999)
        self.assertEqual(len(Turner(1, (), ((0, far, MORE_1, 0), (0, TO_2, MORE_1, 0)))), 1)
        self.bad(1, 1, (), ((0, far, MORE_1, 0), (0, FROM_3, MORE_1, 0)))

    def test_guards_that_nothing_fits(self):
        nothing = ("both", ("from", 4), ("to", 3))
        arrows = ((0, NONE, MORE_1, 0), (0, nothing, MORE_1, 0), (0, NONE, MORE_1, 0), (0, nothing, PUT_0, 0),
                  (0, ("0", 0, "", "0"), PUT_0, 0), (0, ALL, PUT_0, 0), (0, NONE, PUT_0, 0))
        self.assertEqual(Turner(1, (), arrows).arrows, arrows)

    def test_the_first_that_is_none_or_not_sure(self):
        fine, again, bad = (0, EVEN, MORE_1, 1), (0, EVEN, PUT_0, 0), (0, ODD, ("more", 10000), 1)
        self.bad(1, 2, (), (fine, again, bad))
        self.bad(1, 2, (), (fine, bad, again))
        self.bad(2, 2, (), (fine, (1, ALL, MORE_1, 1), bad, again))
        self.bad(2, 2, (), (fine, (1, ALL, MORE_1, 1), again, bad))

    def test_how_many_arrows(self):
        arrow = (0, NONE, MORE_1, 1)
        self.assertEqual(Turner(2, (), (arrow,) * 1600).arrows, (arrow,) * 1600)
        self.bad(1600, 2, (), (arrow,) * 1601)
        self.bad(1600, 2, (), (arrow,) * 1700)
        self.bad(7, 2, (), (arrow,) * 7 + ((0, NONE, MORE_1, 2),) + (arrow,) * 1600)
        self.bad(1, 2, (), ((0, ALL, MORE_1, 1), (0, EVEN, MORE_1, 1)) + (arrow,) * 1600)
        self.bad(1599, 2, (), (arrow,) * 1598 + ((0, ALL, MORE_1, 1), (0, EVEN, MORE_1, 1), arrow))
        self.bad(0, 2, (), [arrow] * 1601)
        single = tuple((at // 40, ("0", at, "1", "0"), MORE_1, at % 40) for at in range(1600))
        self.assertEqual(len(Turner(40, (), single).arrows), 1600)

    def test_what_is_looked_at_first(self):
        self.bad(-2, 0, None, None)
        self.bad(-1, 2, None, None)
        self.bad(-1, 2, (2,), ((0, ALL, 9, 9),))
        self.bad(0, 2, (1,), None)


class Shown(Equality, unittest.TestCase):
    def test_len_and_truth(self):
        self.assertEqual(len(ONE), 2)
        self.assertIs(bool(Turner(1, (), ())), True)

    def test_the_same_three(self):
        self.same(ONE, Turner(2, (1,), ((0, ALL, MORE_1, 1),)))
        for turner in random_turners(900, 10):
            self.same(turner, Turner(*copy.deepcopy((turner.many, turner.ends, turner.arrows))))

    def test_another_one_of_the_three(self):
        for parts in ((3, (1,), ONE.arrows), (2, (), ONE.arrows), (2, (1,), ()), (2, (1,), ((0, ALL, ("more", 2), 1),)),
                      (2, (1,), ((0, ALL, ("put", 1), 1),)), (2, (1,), ((0, EVERY, MORE_1, 1),)),
                      (2, (1,), ((0, ("not", NONE), MORE_1, 1),)), (2, (1,), ((1, ALL, MORE_1, 1),)),
                      (2, (1,), ((0, ALL, MORE_1, 0),)), (2, (1,), ONE.arrows + ((0, NONE, MORE_1, 0),))):
            self.unlike(ONE, Turner(*parts))
        one, other = (0, FROM_3, MORE_1, 1), (1, EVEN, MORE_1, 0)
        self.unlike(Turner(2, (), (one, other)), Turner(2, (), (other, one)))

    def test_things_of_other_kinds(self):
        for thing in anything() + [(2, (1,), ONE.arrows), repr(ONE), 2, (ONE,), [ONE]]:
            self.unlike(ONE, thing)

    def test_a_turner_is_no_machine_and_the_other_way_about(self):
        self.unlike(Turner(1, (0,), ()), Machine(1, (0,), ()))
        self.assertNotIsInstance(ONE, Machine)
        self.assertRaises(NoMachine, takes, ONE, ())
        self.assertRaises(NoTurner, turned_word, Machine(1, (0,), ()), ())

    def test_repr(self):
        self.assertEqual(repr(ONE), "Turner(2, ends=(1,), arrows=((0, ('all',), ('more', 1), 1),))")
        self.assertEqual(repr(Turner(1, (), ())), "Turner(1, ends=(), arrows=())")
        for turner in random_turners(901, 10):
            self.assertEqual(eval(repr(turner)), turner)


class Words(unittest.TestCase):
    def test_the_word_of_no_letters(self):
        self.assertEqual(turned_word(SAME, ()), ())
        self.assertIsNone(turned_word(ONE, ()))
        self.assertEqual(turned_word(Turner(1, (0,), ()), ()), ())

    def test_more_and_put(self):
        self.assertEqual(turned_word(ONE, (5,)), (6,))
        self.assertEqual(turned_word(UP, (5, -1, 0)), (6, 0, 1))
        self.assertEqual(turned_word(DOWN, (5, -1, 0)), (4, -2, -1))
        self.assertEqual(turned_word(NAUGHTS, (5, -1, 0)), (0, 0, 0))
        turner = Turner(2, (0, 1), ((0, FROM_3, ("put", -7), 1), (0, TO_2, ("more", 9999), 0), (1, ALL, ("more", -9999), 0)))
        self.assertEqual(turned_word(turner, (3, 3, 2, 9, 0)), (-7, -9996, 10001, -7, -9999))

    def test_great_letters(self):
        self.assertEqual(turned_word(UP, (GREAT, -GREAT)), (10 ** 12, -GREAT + 1))
        self.assertEqual(turned_word(UP, (10 ** 12,)), (10 ** 12 + 1,))
        self.assertEqual(turned_word(NAUGHTS, (GREAT,)), (0,))

    def test_a_letter_that_leads_nowhere(self):
        turner = Turner(1, (0,), ((0, FROM_3, MORE_1, 0),))
        self.assertEqual(turned_word(turner, (3, 4)), (4, 5))
        for word in ((2,), (3, 2), (2, 3), (3, 2, 3)):
            self.assertIsNone(turned_word(turner, word))

    def test_the_last_state_no_end(self):
        turner = Turner(2, (0,), ((0, ALL, MORE_1, 1), (1, ALL, MORE_1, 0)))
        self.assertEqual([turned_word(turner, (1,) * many) for many in range(4)], [(), None, (2, 2), None])

    def test_by_search(self):
        chance = random.Random(910)
        for turner in random_turners(911, 40):
            for _ in range(15):
                word = tuple(chance.choice(LETTERS) for _ in range(chance.randint(0, 5)))
                self.assertEqual(turned_word(turner, word), turned_by_search(turner, word))

    def test_refused(self):
        refuses_turners(self, lambda thing: turned_word(thing, ()))
        refuses_turners(self, lambda thing: turned_word(thing, None))
        for word in anything() + [[1], (True,), (1, False), (1, None), ("1",), ((1,),), 1]:
            self.assertRaises(NoWord, turned_word, UP, word)
        self.assertRaises(NoWord, turned_word, Turner(1, (), ()), (1, None))

    def test_by_name_and_nothing_is_changed(self):
        self.assertEqual(turned_word(word=(1,), turner=UP), (2,))
        for turner in random_turners(912, 6):
            before = copy.deepcopy(turner)
            self.assertEqual(turned_word(turner, (1, 2)), turned_word(turner, (1, 2)))
            self.assertEqual(turner, before)


def both_by_search(one, other):
    """What the turner of both is made of, found letter by letter."""
    def lead(pair, letter):
        first = way_by_search(one, pair[0], letter)
        second = first and way_by_search(other, pair[1], first[0])
        return second and (first[1], second[1])

    found, rows = [(0, 0)], []
    while len(rows) < len(found):
        rows.append({letter: lead(found[len(rows)], letter) for letter in LETTERS})
        found += [pair for pair in dict.fromkeys(rows[-1].values()) if pair is not None and pair not in found]
    arrows = []
    for at, pair in enumerate(found):
        ways = {}
        for first, second in itertools.product(one.arrows, other.arrows):
            if (first[0], second[0]) == pair:
                turn = second[2] if second[2][0] == "put" else (first[2][0], first[2][1] + second[2][1])
                ways.setdefault(((first[3], second[3]), turn), []).append((first, second))
        for aim, turn in ways:
            def has(n, given=ways[aim, turn]):
                return any(fitting(first[1], n) and fitting(second[1], first[2][1] + (n if first[2][0] == "more" else 0))
                           for first, second in given)
            shape = shape_by_search(has)
            if shape != ("0", 0, "", "0"):
                arrows.append((at, shape, turn, found.index(aim)))
    ends = tuple(at for at, pair in enumerate(found) if pair[0] in one.ends and pair[1] in other.ends)
    return len(found), ends, tuple(sorted(arrows, key=lambda arrow: (arrow[0], arrow[3], arrow[2][0] == "put", arrow[2][1])))


class OfBoth(unittest.TestCase):
    def one_arrow(self, first, second):
        made = turner_of_both(Turner(1, (0,), ((0, ALL, first, 0),)), Turner(1, (0,), ((0, ALL, second, 0),)))
        ((state, guard, turn, to),) = made.arrows
        self.assertEqual((made.many, made.ends, state, guard, to), (1, (0,), 0, EVERY, 0))
        return turn

    def test_put_and_more(self):
        self.assertEqual(self.one_arrow(("put", 5), ("more", 3)), ("put", 8))
        self.assertEqual(self.one_arrow(("put", 5), ("put", -3)), ("put", -3))
        self.assertEqual(self.one_arrow(("more", 5), ("put", -3)), ("put", -3))
        self.assertEqual(self.one_arrow(("more", 5), ("more", -3)), ("more", 2))
        self.assertEqual(self.one_arrow(("more", 9999), ("more", -9999)), ("more", 0))
        self.assertEqual(self.one_arrow(("put", 9998), ("more", 1)), ("put", 9999))

    def test_the_letters_that_the_second_leads_on_with(self):
        big = Turner(1, (0,), ((0, FROM_3, ("more", 0), 0),))
        self.assertEqual(turner_of_both(UP, big), Turner(1, (0,), ((0, ("0", 2, "", "1"), MORE_1, 0),)))
        self.assertEqual(turner_of_both(big, UP), Turner(1, (0,), ((0, FROM_3_SHAPE, MORE_1, 0),)))
        self.assertEqual(turner_of_both(NAUGHTS, big), Turner(1, (0,), ()))
        self.assertEqual(turner_of_both(Turner(1, (0,), ((0, EVEN, ("put", 7), 0),)), big),
                         Turner(1, (0,), ((0, ("10", 0, "", "10"), ("put", 7), 0),)))

    def test_the_order_of_states(self):
        # 1 leads to 2 and -1 to 1, 0 to 3: so the pairs are come to in the order 0, 3, 2, 1.
        one = Turner(4, (0, 1, 2, 3), ((0, ("to", -1), MORE_1, 1), (0, ("from", 1), MORE_1, 2),
                                       (0, ("both", ("from", 0), ("to", 0)), MORE_1, 3), (3, ALL, ("put", 9), 3)))
        self.assertEqual(turner_of_both(one, SAME), Turner(4, (0, 1, 2, 3), (
            (0, ("0", 0, "1", "0"), MORE_1, 1), (0, ("0", 1, "", "1"), MORE_1, 2), (0, ("1", 0, "", "0"), MORE_1, 3),
            (1, EVERY, ("put", 9), 1))))

    def test_the_order_of_arrows(self):
        # By the state that they lead to, then "more" ahead of "put", then by the number.
        arrows = ((0, ("rest", 6, 0), ("put", -5), 0), (0, ("rest", 6, 1), ("put", -50), 0), (0, ("rest", 6, 2), ("more", 7), 0),
                  (0, ("rest", 6, 3), ("more", -7), 0), (0, ("rest", 6, 4), ("more", -9), 1), (0, ("rest", 6, 5), ("put", 1), 0))
        made = turner_of_both(Turner(2, (0,), arrows), SAME)
        self.assertEqual([(turn, to) for state, guard, turn, to in made.arrows],
                         [(("more", -7), 0), (("more", 7), 0), (("put", -50), 0), (("put", -5), 0), (("put", 1), 0),
                          (("more", -9), 1)])

    def test_one_arrow_of_all_its_letters(self):
        one = Turner(1, (0,), ((0, EVEN, MORE_1, 0), (0, ODD, MORE_1, 0)))
        self.assertEqual(turner_of_both(one, UP), Turner(1, (0,), ((0, EVERY, ("more", 2), 0),)))
        parted = Turner(1, (0,), ((0, EVEN, ("put", 1), 0), (0, ODD, ("put", 3), 0)))
        self.assertEqual(turner_of_both(parted, NAUGHTS), Turner(1, (0,), ((0, EVERY, PUT_0, 0),)))
        shifted = Turner(1, (0,), ((0, EVEN, ("more", 2), 0), (0, ODD, MORE_1, 0)))
        back = Turner(1, (0,), ((0, EVEN, ("more", 1), 0),))
        self.assertEqual(turner_of_both(shifted, back), Turner(1, (0,), (
            (0, ("01", 0, "", "01"), ("more", 2), 0), (0, ("10", 0, "", "10"), ("more", 3), 0))))

    def test_no_way_on_in_one_of_both(self):
        short = Turner(2, (1,), ((0, ALL, MORE_1, 1),))
        self.assertEqual(turner_of_both(short, UP), Turner(2, (1,), ((0, EVERY, ("more", 2), 1),)))
        self.assertEqual(turner_of_both(UP, short), Turner(2, (1,), ((0, EVERY, ("more", 2), 1),)))
        self.assertEqual(turner_of_both(Turner(3, (2,), ((1, ALL, MORE_1, 2),)), UP), Turner(1, (), ()))
        self.assertEqual(turner_of_both(Turner(1, (0,), ()), Turner(1, (0,), ())), Turner(1, (0,), ()))

    def test_by_search(self):
        chance = random.Random(920)
        wide = 0
        for _ in range(100):
            one, other = (random_turner(chance, chance.randint(1, 3)) for _ in range(2))
            with self.subTest(one=one, other=other):
                made = turner_of_both(one, other)
                self.assertEqual(made, Turner(*both_by_search(one, other)))
                wide += made.many > 2
        self.assertGreater(wide, 15)

    def test_by_words(self):
        chance = random.Random(921)
        words = words_of([0, 1, -1, 3, 50], 3)
        for _ in range(25):
            one, other = (random_turner(chance, chance.randint(1, 3)) for _ in range(2))
            made = turner_of_both(one, other)
            self.assertTrue(all(is_shape(guard) for state, guard, turn, to in made.arrows))
            for word in words:
                first = turned_word(one, word)
                self.assertEqual(turned_word(made, word), None if first is None else turned_word(other, first))

    def test_more_than_forty_pairs(self):
        def ring(many):
            return Turner(many, (0,), tuple((state, ALL, MORE_1, (state + 1) % many) for state in range(many)))
        self.assertEqual(turner_of_both(ring(5), ring(8)).many, 40)
        self.assertEqual(turner_of_both(ring(40), ring(20)).many, 40)
        for one, other, many in ((ring(6), ring(7), 42), (ring(39), ring(40), 1560)):
            with self.assertRaises(TooMany) as caught:
                turner_of_both(one, other)
            self.assertEqual((caught.exception.many, caught.exception.most), (many, 40))

    def bad(self, at, one, other):
        with self.assertRaises(BadTurner) as caught:
            turner_of_both(one, other)
        self.assertEqual(caught.exception.at, at)

    def test_sums_beyond(self):
        most = Turner(1, (0,), ((0, EVEN, ("more", 9999), 0), (0, ODD, ("put", 9999), 0)))
        self.bad(0, most, UP)
        self.assertEqual(len(turner_of_both(most, DOWN).arrows), 2)
        self.assertEqual(len(turner_of_both(most, SAME).arrows), 2)
        least = Turner(2, (0,), ((0, ODD, ("put", -9999), 1), (0, EVEN, ("more", -9998), 0)))
        self.bad(1, least, DOWN)
        self.bad(0, least, Turner(1, (0,), ((0, ALL, ("more", -9999), 0),)))
        self.bad(0, Turner(1, (0,), ((0, ALL, ("put", 1), 0),)), Turner(1, (), ((0, ALL, ("more", 9999), 0),)))

    def test_too_many_goes_ahead_of_sums_beyond(self):
        def ring(many):
            return Turner(many, (0,), tuple((state, ALL, ("more", 9999), (state + 1) % many) for state in range(many)))
        self.assertRaises(TooMany, turner_of_both, ring(6), ring(7))
        self.bad(0, ring(5), ring(8))

    def test_more_arrows_than_a_turner_has(self):
        one = Turner(2, (0,), tuple((state, ("0", at, "1", "0"), ("put", at), 1 - state) for state in (0, 1) for at in range(800)))
        self.assertEqual(len(turner_of_both(one, SAME).arrows), 1600)
        other = Turner(3, (0,), tuple((state, ALL, ("more", 0), (state + 1) % 3) for state in range(3)))
        self.bad(1600, one, other)

    def test_shapes_that_were_told_whatever_their_size(self):
        far = Turner(1, (0,), ((0, FROM_3, ("more", 9999), 0),))
        back = Turner(1, (0,), ((0, FROM_3, ("more", -9999), 0),))
        made = Turner(1, (0,), ((0, shape_of(FROM_3), ("more", 0), 0),))
        for _ in range(12):
            made = turner_of_both(Turner(1, (0,), ((0, ALL, ("more", -9999), 0),)), made)
            made = Turner(1, (0,), ((0, made.arrows[0][1], ("more", 0), 0),))
        self.assertEqual(made.arrows[0][1], ("0", 3 + 12 * 9999, "", "1"))
        self.assertEqual(turner_of_both(far, back), Turner(1, (0,), ((0, FROM_3_SHAPE, ("more", 0), 0),)))

    def test_refused_and_by_name(self):
        refuses_turners(self, lambda thing: turner_of_both(thing, UP))
        refuses_turners(self, lambda thing: turner_of_both(UP, thing))
        refuses_turners(self, lambda thing: turner_of_both(thing, None))
        self.assertEqual(turner_of_both(other=NAUGHTS, one=UP), Turner(1, (0,), ((0, EVERY, PUT_0, 0),)))

    def test_the_same_again_and_nothing_is_changed(self):
        for one in random_turners(922, 6):
            before = copy.deepcopy(one)
            self.assertEqual(turner_of_both(one, one), turner_of_both(one, one))
            self.assertEqual(one, before)


if __name__ == "__main__":
    unittest.main()
