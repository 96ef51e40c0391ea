"""Points [2] to [4] of learners, [100], [101] and [102]."""

import copy
import inspect
import random
import unittest

from sayarrows.alike import compared
from sayarrows.errors import NoHead, NoMachine, NoPlain, NoWhole, TooMany
from sayarrows.learner import Learner, learnt
from sayarrows.least import least_of
from sayarrows.machines import Machine, lacking_at, unsure_at
from sayarrows.turners import Turner
from tests.helper import anything, by_order, counted, last_but, led, shape_by_search, taken
from tests.test_alike import compared_by_search
from tests.test_least import TAKES_ALL, TAKES_NONE, refuses_too_many
from tests.test_machines import refuses_machines

ALL = ("all",)
FROM_3 = ("from", 3)
EVEN = ("rest", 2, 0)
ODD = ("rest", 2, 1)
EVERY = ("1", 0, "", "1")

EMPTY_WORD = Machine(1, (0,), ())
ONE_BIG = Machine(2, (1,), ((0, FROM_3, 1),))
ONE_SMALL = Machine(2, (1,), ((0, ("to", -3), 1),))
LAST_EVEN = Machine(2, (1,), ((0, ALL, 0), (0, EVEN, 1)))
BIG_THEN_EVEN = Machine(3, (2,), ((0, FROM_3, 1), (1, EVEN, 2), (2, ("to", -5), 0)))
PERIODS = (1, 2, 3, 4, 5, 6, 10, 12, 15, 20, 30, 60)


class ByHand:
    """A learner that goes straight by the words of the document, its machines looked for letter by letter."""

    def __init__(self, machine, period):
        self.machine, self.period = machine, period
        self.heads, self.tails, self.words = [()], [()], set()
        self.tried = {(): self.first_letters()}

    def first_letters(self):
        return by_order(list(range(self.period)) + [-n - 1 for n in range(self.period)])

    def ask(self, word):
        self.words.add(word)
        return taken(self.machine, word)

    def row(self, word):
        return [self.ask(word + tail) for tail in self.tails]

    def near(self, head, letter):
        same = [n for n in self.tried[head] if n % self.period == letter % self.period]
        if letter >= 0:
            return max(n for n in same if 0 <= n <= letter)
        return min(n for n in same if letter <= n < 0)

    def told(self):
        rows = [self.row(head) for head in self.heads]
        arrows = []
        for state, head in enumerate(self.heads):
            aims = {letter: rows.index(self.row(head + (letter,))) for letter in self.tried[head]}
            for aim in sorted(set(aims.values())):
                arrows.append((state, shape_by_search(lambda n: aims[self.near(head, n)] == aim), aim))
        ends = tuple(state for state, head in enumerate(self.heads) if self.ask(head))
        return Machine(len(self.heads), ends, tuple(arrows))

    def new_head(self):
        rows = [self.row(head) for head in self.heads]
        for head in self.heads:
            for letter in by_order(self.tried[head]):
                if self.row(head + (letter,)) not in rows:
                    return head + (letter,)
        return None

    def step(self):
        head = self.new_head()
        if head is not None:
            self.heads.append(head)
            self.tried[head] = self.first_letters()
            return ("head", head)
        machine = self.told()
        answer, word = compared_by_search(machine, self.machine)
        if answer == "alike":
            return ("done", least_of(machine))
        states = [0]
        for letter in word:
            states += led(machine.arrows, states[-1:], letter)
        for at, letter in enumerate(word):
            here, there = (self.heads[states[place]] + word[place:] for place in (at, at + 1))
            if self.ask(here) != self.ask(there):
                head = self.heads[states[at]]
                self.tried[head] = by_order(set(self.tried[head]) | {letter})
                self.tails += [word[at + 1:]] if word[at + 1:] not in self.tails else []
                return ("apart", word)
        raise AssertionError("the answer never turns")


def small_saying(chance, period):
    """A saying of bounds near 0 whose remainders go by a period."""
    divisors = [divisor for divisor in range(2, 7) if period % divisor == 0]
    saying = chance.choice((("from", chance.randint(-6, 6)), ("to", chance.randint(-6, 6)), ALL))
    if divisors and chance.random() < 0.6:
        divisor = chance.choice(divisors)
        saying = (chance.choice(("both", "either")), saying, ("rest", divisor, chance.randrange(divisor)))
    return saying


def random_cases(seed, many, periods=(1, 2, 3, 4, 6)):
    chance = random.Random(seed)
    found = []
    while len(found) < many:
        period = chance.choice(periods)
        states = chance.randint(1, 3)
        arrows = tuple((chance.randrange(states), small_saying(chance, period), chance.randrange(states))
                       for _ in range(chance.randint(states, 2 * states + 1)))
        machine = Machine(states, tuple(sorted(chance.sample(range(states), chance.randint(1, states)))), arrows)
        if least_of(machine).many > 1:
            found.append((machine, period))
    return found


class Begun(unittest.TestCase):
    def test_periods(self):
        for period in PERIODS:
            self.assertEqual(Learner(TAKES_ALL, period=period).heads(), [()])
        wrong = [0, -1, -60, 7, 8, 9, 11, 14, 16, 18, 24, 25, 40, 45, 59, 61, 120, 600, True, False, None, "1", (1,), [1], {}]
        for period in wrong + [thing for thing in anything() if thing != 1 or thing is True]:
            self.assertRaises(NoPlain, Learner, TAKES_ALL, period=period)
            self.assertRaises(NoPlain, learnt, TAKES_ALL, period=period)
        self.assertEqual(Learner(TAKES_ALL).tried(()), [0, -1])

    def test_guards_that_do_not_go_by_the_period(self):
        for machine, length in ((LAST_EVEN, 2), (Machine(1, (0,), ((0, ("rest", 6, 5), 0),)), 6),
                                (Machine(1, (0,), ((0, ("both", ("rest", 3, 0), ("to", 0)), 0),)), 3),
                                (Machine(1, (0,), ((0, ("both", ("rest", 4, 0), ("from", 0)), 0),)), 4),
                                (Machine(1, (0,), ((0, ("both", ("rest", 4, 0), ("rest", 5, 0)), 0),)), 20),
                                (Machine(2, (1,), ((0, ("both", ("rest", 4, 0), ("from", 0)), 1),
                                                   (0, ("both", ("rest", 3, 0), ("to", 0)), 1))), 12)):
            for period in PERIODS:
                if period % length == 0:
                    self.assertEqual(Learner(machine, period=period).tails(), [()])
                else:
                    self.assertRaises(NoPlain, Learner, machine, period=period)
                    self.assertRaises(NoPlain, learnt, machine, period=period, most=0)

    def test_the_guards_are_those_of_the_least_machine(self):
        self.assertEqual(learnt(Machine(1, (0,), ((0, EVEN, 0), (0, ODD, 0))))[-1], ("done", TAKES_ALL))
        self.assertEqual(learnt(Machine(2, (0,), ((0, ALL, 0), (0, EVEN, 1))))[-1], ("done", TAKES_ALL))
        self.assertEqual(learnt(Machine(3, (0,), ((0, ALL, 0), (1, EVEN, 2))))[-1], ("done", TAKES_ALL))

    def test_what_is_looked_at_first(self):
        for make in (Learner, learnt):
            refuses_machines(self, lambda thing: make(thing, period=1))
            refuses_machines(self, lambda thing: make(thing, period=None))
            self.assertRaises(NoMachine, make, Turner(1, (), ()))
            refuses_too_many(self, 64, make, Machine(*last_but(6)))
            with self.assertRaises(TooMany) as caught:
                make(Machine(*last_but(6)), period=None)
            self.assertEqual((caught.exception.many, caught.exception.most), (64, 40))

    def test_the_tried_letters(self):
        for period, letters in ((1, [0, -1]), (2, [0, 1, -1, -2]), (3, [0, 1, -1, 2, -2, -3]),
                                (12, [0, 1, -1, 2, -2, 3, -3, 4, -4, 5, -5, 6, -6, 7, -7, 8, -8, 9, -9, 10, -10, 11, -11, -12])):
            learner = Learner(TAKES_NONE, period=period)
            self.assertEqual(learner.tried(()), letters)
            self.assertEqual((learner.heads(), learner.tails(), learner.asked()), ([()], [()], 0))
        self.assertEqual(len(Learner(TAKES_NONE, period=60).tried(())), 120)

    def test_by_name_alone(self):
        self.assertRaises(TypeError, Learner, TAKES_ALL, 1)
        self.assertRaises(TypeError, learnt, TAKES_ALL, 1)
        self.assertEqual(Learner(period=2, machine=TAKES_ALL).tried(()), [0, 1, -1, -2])
        self.assertEqual(learnt(most=5, period=2, machine=TAKES_ALL), [("done", TAKES_ALL)])
        self.assertEqual(Learner(TAKES_ALL).tried(head=()), [0, -1])
        self.assertEqual(str(inspect.signature(Learner)), "(machine, *, period=1)")
        self.assertEqual(str(inspect.signature(learnt)), "(machine, *, period=1, most=200)")


class Steps(unittest.TestCase):
    def test_gone_through_by_hand(self):
        learner = Learner(ONE_BIG)
        lost = ((0, ("1", 3, "", "0"), 1), (0, ("0", 3, "", "1"), 2), (1, EVERY, 1), (2, EVERY, 1))
        rows = [
            # The step, then heads, tails, the letters tried at the first head, and how many words were asked of.
            (("apart", (3,)), [()], [()], [0, -1, 3], 4),
            (("head", (3,)), [(), (3,)], [()], [0, -1, 3], 4),
            (("apart", (0, 3)), [(), (3,)], [(), (3,)], [0, -1, 3], 7),
            (("head", (0,)), [(), (3,), (0,)], [(), (3,)], [0, -1, 3], 8),
            (("done", Machine(3, (2,), lost)), [(), (3,), (0,)], [(), (3,)], [0, -1, 3], 15),
            (("done", Machine(3, (2,), lost)), [(), (3,), (0,)], [(), (3,)], [0, -1, 3], 15),
        ]
        for step, heads, tails, tried, asked in rows:
            self.assertEqual(learner.step(), step)
            self.assertEqual((learner.heads(), learner.tails(), learner.tried(()), learner.asked()),
                             (heads, tails, tried, asked))
        self.assertEqual((learner.tried((3,)), learner.tried((0,))), ([0, -1], [0, -1]))

    def test_the_machine_told_by_the_table_by_hand(self):
        learner = Learner(ONE_BIG)
        self.assertEqual(learner.table_machine(), Machine(1, (), ((0, EVERY, 0),)))
        self.assertEqual(learner.asked(), 0)
        learner.step()
        self.assertRaises(NoWhole, learner.table_machine)
        self.assertEqual(learner.asked(), 4)
        learner.step()
        below, above = ("1", 3, "", "0"), ("0", 3, "", "1")
        self.assertEqual(learner.table_machine(), Machine(2, (1,), ((0, below, 0), (0, above, 1), (1, EVERY, 0))))
        self.assertEqual(learner.asked(), 4)
        learner.step()
        self.assertRaises(NoWhole, learner.table_machine)
        learner.step()
        # Numbered by heads, not by least words.
        told = Machine(3, (1,), ((0, above, 1), (0, below, 2), (1, EVERY, 2), (2, EVERY, 2)))
        for asked in (8, 15, 15):
            self.assertEqual(learner.table_machine(), told)
            self.assertEqual(learner.asked(), asked)
            learner.step()

    def test_machines_that_are_known_at_once(self):
        self.assertEqual(learnt(TAKES_NONE), [("done", TAKES_NONE)])
        self.assertEqual(learnt(TAKES_ALL, period=6), [("done", TAKES_ALL)])
        learner = Learner(TAKES_NONE)
        learner.step()
        self.assertEqual(learner.asked(), 3)

    def test_the_word_of_no_letters_alone(self):
        done = ("done", least_of(EMPTY_WORD))
        self.assertEqual(learnt(EMPTY_WORD), [("head", (0,)), done])
        self.assertEqual(learnt(EMPTY_WORD, period=4), [("head", (0,)), done])

    def test_the_near_letter_below_0_and_from_0_on(self):
        steps = learnt(ONE_SMALL)
        self.assertEqual(steps[0], ("apart", (-3,)))
        learner = Learner(ONE_SMALL)
        learner.step()
        self.assertEqual(learner.tried(()), [0, -1, -3])
        learner.step()
        self.assertEqual(learner.heads(), [(), (-3,)])
        self.assertEqual(learner.table_machine().arrows[:2], ((0, ("0", -2, "", "1"), 0), (0, ("1", -2, "", "0"), 1)))
        self.assertEqual(steps[-1], ("done", least_of(ONE_SMALL)))

    def test_letters_that_are_tried_in_order(self):
        # Only 7 and -7, 4 and -4 are led on.
        singles = tuple((0, ("both", ("from", n), ("to", n)), 1) for n in (7, -7, 4, -4))
        machine = Machine(2, (1,), singles)
        learner = Learner(machine)
        while learner.step()[0] != "done":
            letters = learner.tried(())
            self.assertEqual(letters, by_order(letters))
        self.assertEqual(learner.tried(()), [0, -1, 4, -4, 5, -5, 7, -7, 8, -8])

    def test_by_hand_step_by_step(self):
        kinds = {"head": 0, "apart": 0, "done": 0}
        old_letters = old_tails = 0
        cases = random_cases(1000, 25) + [(ONE_BIG, 1), (ONE_SMALL, 2), (LAST_EVEN, 2), (BIG_THEN_EVEN, 4), (EMPTY_WORD, 1)]
        for machine, period in cases:
            with self.subTest(machine=machine, period=period):
                learner, hand = Learner(machine, period=period), ByHand(machine, period)
                for _ in range(60):
                    letters, tails = {head: list(hand.tried[head]) for head in hand.heads}, list(hand.tails)
                    step = learner.step()
                    self.assertEqual(step, hand.step())
                    self.assertEqual((learner.heads(), learner.tails()), (hand.heads, hand.tails))
                    self.assertEqual([learner.tried(head) for head in hand.heads], [hand.tried[head] for head in hand.heads])
                    self.assertEqual(learner.asked(), len(hand.words))
                    kinds[step[0]] += 1
                    if step[0] == "apart":
                        old_letters += letters == hand.tried
                        old_tails += tails == hand.tails
                    if step[0] == "done":
                        break
                self.assertEqual(step, ("done", least_of(machine)))
        self.assertGreater(min(kinds.values()), 20)
        # Words apart whose letter was tried already, and whose rest was a tail already.
        self.assertGreater(min(old_letters, old_tails), 5)

    def test_no_more_heads_than_states(self):
        for machine, period in random_cases(1001, 30, (1, 2, 3, 6, 12, 30, 60)):
            learner = Learner(machine, period=period)
            steps = 0
            while learner.step()[0] != "done":
                steps += 1
                self.assertLess(steps, 200)
                self.assertLessEqual(len(learner.heads()), least_of(machine).many)
            self.assertEqual(len(learner.heads()), least_of(machine).many)
            self.assertEqual(learner.step(), ("done", least_of(machine)))

    def test_what_was_put_otherwise_is_learnt_the_same(self):
        looks = Machine(2, (1,), ((0, EVEN, 1), (0, ODD, 0), (1, EVEN, 1), (1, ODD, 0)))
        self.assertEqual(learnt(looks, period=2), learnt(LAST_EVEN, period=2))
        self.assertEqual(learnt(least_of(BIG_THEN_EVEN), period=2), learnt(BIG_THEN_EVEN, period=2))

    def test_forty_states(self):
        steps = learnt(Machine(*counted(40)))
        self.assertEqual(steps[-1], ("done", least_of(Machine(*counted(40)))))
        self.assertEqual([word for kind, word in steps if kind == "head"][:3], [(0,), (0, 0), (0, 0, 0)])


class Told(unittest.TestCase):
    def test_new_lists(self):
        learner = Learner(ONE_BIG)
        for _ in range(3):
            for told in (learner.heads(), learner.tails(), learner.tried(())):
                self.assertIs(type(told), list)
                before = (learner.heads(), learner.tails(), learner.tried(()))
                told.append((7, 7))
                told.reverse()
                self.assertEqual((learner.heads(), learner.tails(), learner.tried(())), before)
            learner.step()

    def test_no_head(self):
        learner = Learner(ONE_BIG)
        for head in ((3,), (0,), (0, 0)):
            self.assertRaises(NoHead, learner.tried, head)
        while learner.step()[0] != "done":
            pass
        self.assertEqual(learner.heads(), [(), (3,), (0,)])
        wrong = [(1,), (-1,), (0, 0), (3, 3), (False,), [], [3], [0], 0, 3, None, "", "()", {}, ((),), ((3,),), True]
        for head in wrong + anything():
            self.assertRaises(NoHead, learner.tried, head)
        self.assertEqual(learner.tried((0,)), [0, -1])

    def test_nothing_changes_by_asking(self):
        for machine, period in random_cases(1010, 6) + [(ONE_BIG, 1)]:
            learner = Learner(machine, period=period)
            expected = learnt(machine, period=period)
            for step in expected:
                for _ in range(2):
                    before = (learner.heads(), learner.tails(), learner.asked())
                    try:
                        told = learner.table_machine()
                        self.assertEqual((unsure_at(told), lacking_at(told)), (None, None))
                        self.assertNotEqual(step[0], "head")
                    except NoWhole:
                        self.assertEqual(step[0], "head")
                    self.assertRaises(NoHead, learner.tried, (99, 99))
                    self.assertEqual((learner.heads(), learner.tails(), learner.asked()), before)
                self.assertEqual(learner.step(), step)

    def test_the_machine_told_is_the_one_that_is_compared(self):
        for machine, period in random_cases(1011, 10):
            learner = Learner(machine, period=period)
            while True:
                try:
                    told = learner.table_machine()
                except NoWhole:
                    told = None
                step = learner.step()
                if step[0] == "head":
                    self.assertIsNone(told)
                elif step[0] == "apart":
                    self.assertEqual(compared(told, machine), step)
                    self.assertEqual(len(told), len(learner.heads()))
                else:
                    self.assertEqual(least_of(told), step[1])
                    break

    def test_a_twin(self):
        for machine, period in random_cases(1012, 6) + [(ONE_BIG, 1), (BIG_THEN_EVEN, 2)]:
            expected = learnt(machine, period=period)
            for at in range(len(expected) + 1):
                learner = Learner(machine, period=period)
                for _ in range(at):
                    learner.step()
                twin = learner.twin()
                self.assertIsInstance(twin, Learner)
                told = [(one.heads(), one.tails(), one.asked(), [one.tried(head) for head in one.heads()])
                        for one in (learner, twin)]
                self.assertEqual(told[0], told[1])
                # Neither turns the other: first one goes on to its end, then the other.
                rest = [twin.step() for _ in expected[at:]]
                self.assertEqual(rest, expected[at:])
                self.assertEqual((learner.heads(), learner.tails(), learner.asked(), [learner.tried(head) for head in learner.heads()]),
                                 told[0])
                asked = twin.asked()
                self.assertEqual([learner.step() for _ in expected[at:]], expected[at:])
                self.assertEqual((learner.asked(), twin.asked()), (asked, asked))

    def test_learnt(self):
        steps = learnt(ONE_BIG)
        self.assertIs(type(steps), list)
        self.assertEqual([kind for kind, what in steps], ["apart", "head", "apart", "head", "done"])
        for most in range(8):
            self.assertEqual(learnt(ONE_BIG, most=most), steps[:most])
        self.assertEqual(learnt(ONE_BIG, most=10 ** 12 - 1), steps)
        for most in [-1, -200, True, False, None, "1", (1,), [], {}] + [thing for thing in anything() if type(thing) is not int]:
            self.assertRaises(NoPlain, learnt, ONE_BIG, most=most)
        self.assertRaises(NoPlain, learnt, ONE_BIG, period=7, most=-1)
        self.assertRaises(NoMachine, learnt, None, period=7, most=-1)
        self.assertRaises(TooMany, learnt, Machine(*last_but(6)), most=-1)
        self.assertEqual(learnt(ONE_BIG, most=0), [])

    def test_two_hundred_steps_at_most(self):
        def flips(n):
            return ("both", ("from", n), ("to", n))
        # Each letter of many on its own makes a step of its own.
        machine = Machine(2, (1,), tuple((0, flips(n), 1) for n in range(-99, 99, 2)))
        steps = learnt(machine)
        self.assertEqual(len(steps), 200)
        self.assertNotIn("done", [kind for kind, what in steps])
        self.assertEqual(learnt(machine, most=400)[:200], steps)
        self.assertEqual(learnt(machine, most=400)[-1][0], "done")

    def test_the_same_again_and_nothing_is_changed(self):
        before = copy.deepcopy(BIG_THEN_EVEN)
        self.assertEqual(learnt(BIG_THEN_EVEN, period=2), learnt(BIG_THEN_EVEN, period=2))
        self.assertEqual(BIG_THEN_EVEN, before)


if __name__ == "__main__":
    unittest.main()
