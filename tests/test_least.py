"""Points [2] to [5] of the sure and the least machines, [50] and [51]."""

import copy
import random
import unittest

from sayarrows.errors import TooMany
from sayarrows.least import least_of, sure_of
from sayarrows.machines import Machine, lacking_at, takes, unsure_at
from sayarrows.shapes import is_shape, moved_on, shape_of
from tests.helper import (
    LETTERS, counted, last_but, least_by_search, random_guard, random_parts, renumbered, sure_by_search, words_of,
)
from tests.test_machines import refuses_machines

ALL = ("all",)
NONE = ("none",)
FROM_3 = ("from", 3)
EVEN = ("rest", 2, 0)
EVERY = ("1", 0, "", "1")

TAKES_NONE = Machine(1, (), ((0, EVERY, 0),))
TAKES_ALL = Machine(1, (0,), ((0, EVERY, 0),))


def random_groups(seed, many, most_states=6):
    """What machines are made of, by chance."""
    chance = random.Random(seed)
    found = []
    for _ in range(many):
        states = chance.randint(1, most_states)
        found.append(random_parts(chance, states, chance.randint(states, 3 * states)))
    return found


def told_or_refused(function, machine):
    """What is told, or how many there were."""
    try:
        return function(machine)
    except TooMany as error:
        return error.many


def refuses_too_many(case, many, function, *given):
    with case.assertRaises(TooMany) as caught:
        function(*given)
    case.assertEqual((caught.exception.many, caught.exception.most), (many, 40))
    case.assertIs(type(caught.exception.many), int)


class SureOf(unittest.TestCase):
    def test_a_state_for_each_set(self):
        machine = Machine(3, (2,), ((0, ALL, 0), (0, FROM_3, 1), (1, EVEN, 2)))
        sure = sure_of(machine)
        # () leads to (0,), 3 to (0, 1), 3 and 0 to (0, 2), 3 and 4 to (0, 1, 2).
        self.assertEqual((sure.many, sure.ends), (4, (2, 3)))
        below, above = ("1", 3, "", "0"), ("0", 3, "", "1")
        cut = ((("01", 3, "", "0"), 0), (("0", 3, "", "01"), 1), (("10", 4, "", "0"), 2), (("0", 4, "", "10"), 3))
        self.assertEqual(sure.arrows, ((0, below, 0), (0, above, 1)) + tuple((1, guard, to) for guard, to in cut)
                         + ((2, below, 0), (2, above, 1)) + tuple((3, guard, to) for guard, to in cut))

    def test_the_set_of_no_states(self):
        self.assertEqual(sure_of(Machine(2, (1,), ((0, ALL, 1),))),
                         Machine(3, (1,), ((0, EVERY, 1), (1, EVERY, 2), (2, EVERY, 2))))
        self.assertEqual(sure_of(Machine(1, (0,), ())), Machine(2, (0,), ((0, EVERY, 1), (1, EVERY, 1))))
        self.assertEqual(sure_of(Machine(1, (0,), ((0, NONE, 0),))), Machine(2, (0,), ((0, EVERY, 1), (1, EVERY, 1))))
        self.assertEqual(sure_of(Machine(1, (0,), ((0, ALL, 0),))), TAKES_ALL)

    def test_the_order_by_least_words(self):
        # By one letter: 0 leads to no state, 1 to (3,), -1 to (1,), 2 to (2,).
        arrows = ((0, ("from", 2), 2), (0, ("both", ("from", 1), ("to", 1)), 3), (0, ("to", -1), 1))
        sure = sure_of(Machine(4, (1,), arrows))
        self.assertEqual(sure.many, 5)
        self.assertEqual([(guard, to) for state, guard, to in sure.arrows if state == 0],
                         [(("0", 0, "1", "0"), 1), (("0", 1, "1", "0"), 2), (("1", 0, "", "0"), 3),
                          (("0", 2, "", "1"), 4)])
        self.assertEqual(sure.ends, (3,))

    def test_a_shorter_word_comes_first(self):
        # (2,) is come to by the word 0, 0 and (3,) by the word 50 alone.
        arrows = ((0, ("to", 49), 1), (0, ("from", 50), 3), (1, ALL, 2))
        sure = sure_of(Machine(4, (3,), arrows))
        self.assertEqual(sure.ends, (2,))
        self.assertEqual(sure.arrows[:3], ((0, ("1", 50, "", "0"), 1), (0, ("0", 50, "", "1"), 2), (1, EVERY, 3)))

    def test_the_first_letter_that_differs_goes_ahead_of_later_ones(self):
        # Words 0, 9 to (3,) and 1, 0 to (4,): the first one is less.
        arrows = ((0, ("to", 0), 1), (0, ("from", 1), 2), (1, ("from", 9), 3), (2, ALL, 4), (1, ("to", 8), 1))
        sure = sure_of(Machine(5, (3,), arrows))
        self.assertEqual(sure.ends, (3,))
        self.assertEqual([to for state, guard, to in sure.arrows if state == 2], [4])

    def test_one_arrow_for_each_two_states(self):
        for parts in random_groups(500, 30, 4):
            sure = told_or_refused(sure_of, Machine(*parts))
            if isinstance(sure, Machine):
                pairs = [(state, to) for state, guard, to in sure.arrows]
                self.assertEqual(pairs, sorted(set(pairs)))
                self.assertTrue(all(is_shape(guard) for state, guard, to in sure.arrows))

    def test_states_that_nothing_leads_to(self):
        machine = Machine(5, (2, 4), ((0, ALL, 1), (2, FROM_3, 1), (3, EVEN, 4), (1, NONE, 3), (1, ALL, 0)))
        self.assertEqual(sure_of(machine), Machine(2, (), ((0, EVERY, 1), (1, EVERY, 0))))

    def test_by_search(self):
        many = 0
        for parts in random_groups(501, 60):
            machine = Machine(*parts)
            sure = told_or_refused(sure_of, machine)
            if isinstance(sure, Machine):
                many += 1
                self.assertEqual(sure, Machine(*sure_by_search(machine)))
                self.assertIsNone(unsure_at(sure))
                self.assertIsNone(lacking_at(sure))
                self.assertEqual(sure_of(sure), sure)
        self.assertGreater(many, 50)

    def test_the_same_words(self):
        chance = random.Random(502)
        for parts in random_groups(503, 20):
            machine = Machine(*parts)
            sure = told_or_refused(sure_of, machine)
            if isinstance(sure, Machine):
                for word in words_of([0, 1, -1] + chance.sample(LETTERS, 2), 3):
                    self.assertIs(takes(sure, word), takes(machine, word))

    def test_forty_sets(self):
        arrows = tuple((state, ALL, state + 1) for state in range(38))
        sure = sure_of(Machine(39, (38,), arrows))
        self.assertEqual(len(sure), 40)
        self.assertEqual(sure.ends, (38,))
        self.assertEqual(sure_of(Machine(*counted(40))).many, 40)

    def test_more_than_forty_sets(self):
        arrows = tuple((state, ALL, state + 1) for state in range(39))
        refuses_too_many(self, 41, sure_of, Machine(40, (39,), arrows))
        refuses_too_many(self, 41, sure_of, Machine(40, (), arrows))
        refuses_too_many(self, 64, sure_of, Machine(*last_but(6)))
        refuses_too_many(self, 2048, sure_of, Machine(*last_but(11)))
        self.assertEqual(len(sure_of(Machine(*last_but(5)))), 32)

    def test_1600_arrows(self):
        def guard(state, to):
            return ("0", 40 * state + to, "1", "0") if to else ("1", 40 * state + 1, "0" * 39, "1")
        arrows = tuple((state, guard(state, to), to) for state in range(40) for to in range(40))
        sure = sure_of(Machine(40, (39,), arrows))
        self.assertEqual((sure.many, len(sure.arrows)), (40, 1600))
        self.assertEqual(sure_of(sure), sure)

    def test_shapes_that_were_told_whatever_their_size(self):
        far = shape_of(FROM_3)
        for _ in range(12):
            far = moved_on(far, 9999)
        sure = sure_of(Machine(2, (1,), ((0, far, 1), (1, ALL, 1))))
        self.assertEqual(sure.arrows[1], (0, far, 2))
        self.assertEqual(sure_of(sure), sure)

    def test_refused(self):
        refuses_machines(self, sure_of)

    def test_by_name(self):
        self.assertEqual(sure_of(machine=TAKES_ALL), TAKES_ALL)

    def test_the_same_again_and_nothing_is_changed(self):
        for parts in random_groups(504, 10, 3):
            machine = Machine(*parts)
            before = copy.deepcopy(machine)
            self.assertEqual(told_or_refused(sure_of, machine), told_or_refused(sure_of, machine))
            self.assertEqual(machine, before)


def put_otherwise(chance, guard):
    """A guard of the same letters, put otherwise."""
    if len(guard) == 4:
        return guard
    return chance.choice((("not", ("not", guard)), shape_of(guard), ("both", guard, ALL), ("either", NONE, guard),
                          ("either", guard, guard)))


def parted(chance, arrow):
    """Arrows that lead by the same letters, one cut in two by a saying, or there twice."""
    state, guard, to = arrow
    if len(guard) == 4:
        return [arrow] * chance.randint(1, 2)
    cut = ("rest", 3, chance.randrange(3)) if chance.random() < 0.5 else ("from", chance.randint(-9, 9))
    return [(state, ("both", guard, cut), to), (state, ("both", guard, ("not", cut)), to)]


def with_states_for_nothing(chance, parts):
    """What a machine of the same words is made of, with states that nothing leads to."""
    many, ends, arrows = parts
    more = tuple((many + at, random_guard(chance, 2), chance.randrange(many + 2)) for at in (0, 1))
    return many + 2, ends + (many + 1,), arrows + more


class LeastOf(unittest.TestCase):
    def test_that_take_no_word(self):
        for parts in ((1, (), ()), (3, (2,), ((0, ALL, 1), (2, ALL, 2))), (2, (1,), ((0, NONE, 1), (0, ALL, 0))),
                      (40, (), ((0, ALL, 39),)), (4, (3,), ((0, EVEN, 1), (1, FROM_3, 2), (2, NONE, 3)))):
            self.assertEqual(least_of(Machine(*parts)), TAKES_NONE)

    def test_that_take_all_words(self):
        for parts in ((1, (0,), ((0, ALL, 0),)), (2, (0, 1), ((0, FROM_3, 1), (0, ("to", 2), 0), (1, ALL, 0))),
                      (3, (0, 1, 2), ((0, EVEN, 1), (0, ("rest", 2, 1), 2), (1, ALL, 0), (2, ALL, 2))),
                      (2, (0,), ((0, ALL, 0), (0, FROM_3, 1)))):
            self.assertEqual(least_of(Machine(*parts)), TAKES_ALL)

    def test_the_word_of_no_letters_alone(self):
        self.assertEqual(least_of(Machine(1, (0,), ())), Machine(2, (0,), ((0, EVERY, 1), (1, EVERY, 1))))

    def test_states_that_take_the_same_are_one(self):
        arrows = ((0, FROM_3, 1), (0, ("to", 2), 2), (1, EVEN, 3), (2, EVEN, 4), (3, ALL, 3), (4, ALL, 4))
        even, odd = ("10", 0, "", "10"), ("01", 0, "", "01")
        self.assertEqual(least_of(Machine(5, (3, 4), arrows)),
                         Machine(4, (2,), ((0, EVERY, 1), (1, even, 2), (1, odd, 3), (2, EVERY, 2), (3, EVERY, 3))))

    def test_numbered_by_least_words(self):
        arrows = ((0, ("from", 1), 2), (0, ("to", -1), 1), (1, ALL, 3), (2, EVEN, 3))
        least = least_of(Machine(4, (3,), arrows))
        # 0 leads nowhere, 1 to what was 2, -1 to what was 1.
        self.assertEqual(least.arrows[:3], ((0, ("0", 0, "1", "0"), 1), (0, ("0", 1, "", "1"), 2), (0, ("1", 0, "", "0"), 3)))
        self.assertEqual(least.ends, (4,))

    def test_the_least_machine_of_itself(self):
        for parts in random_groups(510, 60):
            least = told_or_refused(least_of, Machine(*parts))
            if isinstance(least, Machine):
                self.assertEqual(least_of(least), least)
                self.assertEqual(sure_of(least), least)

    def test_by_search(self):
        many = 0
        for parts in random_groups(511, 80):
            machine = Machine(*parts)
            sure = told_or_refused(sure_of, machine)
            if isinstance(sure, Machine):
                many += len(sure) > len(least_of(machine)) > 1
                self.assertEqual(least_of(machine), Machine(*least_by_search(sure)))
                self.assertEqual(least_of(sure), least_of(machine))
        self.assertGreater(many, 15)

    def alike(self, change, seed=512, states=6):
        """What is told hangs on the words alone."""
        chance = random.Random(seed)
        unlike = 0
        for parts in random_groups(seed, 60, states):
            least = told_or_refused(least_of, Machine(*parts))
            self.assertEqual(told_or_refused(least_of, Machine(*change(chance, parts))), least)
            unlike += isinstance(least, Machine) and len(least) > 2
        self.assertGreater(unlike, 5)

    def test_states_numbered_otherwise(self):
        self.alike(renumbered)

    def test_arrows_in_another_order(self):
        self.alike(lambda chance, parts: parts[:2] + (tuple(chance.sample(parts[2], len(parts[2]))),))

    def test_arrows_twice(self):
        self.alike(lambda chance, parts: parts[:2] + (parts[2] + parts[2][:2] + parts[2],))

    def test_sayings_put_otherwise(self):
        self.alike(lambda chance, parts: parts[:2] + (tuple((state, put_otherwise(chance, guard), to)
                                                            for state, guard, to in parts[2]),))

    def test_an_arrow_cut_in_two(self):
        self.alike(lambda chance, parts: parts[:2] + (tuple(part for arrow in parts[2] for part in parted(chance, arrow)),))

    def test_states_that_nothing_leads_to(self):
        self.alike(with_states_for_nothing)

    def test_all_at_once(self):
        def change(chance, parts):
            many, ends, arrows = with_states_for_nothing(chance, parts)
            arrows = [(state, put_otherwise(chance, guard), to) for state, guard, to in arrows]
            arrows = tuple(part for arrow in arrows for part in parted(chance, arrow))
            return renumbered(chance, (many, ends, arrows))
        self.alike(change)

    def test_of_sets_made_states(self):
        # Each word by a machine that guesses whether this is the last letter, and by one that looks back.
        guesses = Machine(2, (1,), ((0, ALL, 0), (0, EVEN, 1)))
        looks = Machine(2, (1,), ((0, EVEN, 1), (0, ("rest", 2, 1), 0), (1, EVEN, 1), (1, ("rest", 2, 1), 0)))
        self.assertEqual(least_of(guesses), least_of(looks))
        self.assertEqual(least_of(guesses).many, 2)

    def test_told_where_the_sure_one_is_refused(self):
        many, ends, arrows = last_but(6)
        machine = Machine(many, tuple(range(many)), arrows)
        refuses_too_many(self, 64, sure_of, machine)
        self.assertEqual(least_of(machine), TAKES_ALL)
        chain = Machine(40, (0, 1), tuple((state, ALL, state + 1) for state in range(39)))
        refuses_too_many(self, 41, sure_of, chain)
        self.assertEqual(least_of(chain),
                         Machine(3, (0, 1), ((0, EVERY, 1), (1, EVERY, 2), (2, EVERY, 2))))

    def test_forty_states_and_more(self):
        self.assertEqual(least_of(Machine(*counted(40))),
                         Machine(40, (0,), tuple((state, EVERY, (state + 1) % 40) for state in range(40))))
        refuses_too_many(self, 41, least_of, Machine(40, (39,), tuple((state, ALL, state + 1) for state in range(39))))
        refuses_too_many(self, 64, least_of, Machine(*last_but(6)))
        refuses_too_many(self, 2048, least_of, Machine(*last_but(11)))
        self.assertEqual(least_of(Machine(*last_but(5))).many, 32)

    def test_many_more_sets_than_states(self):
        # Two more than one number each, put together: 5 * 7 * 9 sets in a ring, of which one alone is no end.
        arrows, ends, many = [], [], 1
        for size in (5, 7, 9):
            arrows += [(many + at, ALL, many + (at + 1) % size) for at in range(size)] + [(0, ALL, many + 1)]
            ends += range(many + 1, many + size)
            many += size
        machine = Machine(many, tuple(ends), tuple(arrows))
        refuses_too_many(self, 316, sure_of, machine)
        refuses_too_many(self, 315, least_of, machine)

    def test_refused(self):
        refuses_machines(self, least_of)

    def test_by_name(self):
        self.assertEqual(least_of(machine=TAKES_NONE), TAKES_NONE)

    def test_the_same_again_and_nothing_is_changed(self):
        for parts in random_groups(513, 10, 3):
            machine = Machine(*parts)
            before = copy.deepcopy(machine)
            self.assertEqual(told_or_refused(least_of, machine), told_or_refused(least_of, machine))
            self.assertEqual(machine, before)


if __name__ == "__main__":
    unittest.main()
