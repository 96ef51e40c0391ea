"""Points [2] to [5] of what turners make of sets of words, the end of [92], and [93]."""

import copy
import itertools
import random
import unittest

from sayarrows.errors import NoMachine, NoTurner
from sayarrows.joins import both_of
from sayarrows.least import least_of
from sayarrows.machines import Machine, takes
from sayarrows.sayings import ordered
from sayarrows.turned import image_of, is_turn_paper, led_into, turns_compared
from sayarrows.turners import Turner, turned_word, turner_of_both
from tests.helper import (
    LETTERS, anything, counted, last_but, least_by_search, led, machine_by_search, of_wrong_kinds,
    put_otherwise_anywhere, random_parts, renumbered, rises, walk_by_search, words_of,
)
from tests.test_least import TAKES_ALL, TAKES_NONE, refuses_too_many
from tests.test_machines import refuses_machines
from tests.test_turners import (
    DOWN, MORE_1, NAUGHTS, PUT_0, SAME, UP, random_turner, random_turners, refuses_turners, turned_by_search, way_by_search,
)

ALL = ("all",)
NONE = ("none",)
FROM_3 = ("from", 3)
TO_2 = ("to", 2)
EVEN = ("rest", 2, 0)
ODD = ("rest", 2, 1)
EVERY = ("1", 0, "", "1")

BIGS = Machine(1, (0,), ((0, FROM_3, 0),))
ONE_BIG = Machine(2, (1,), ((0, FROM_3, 1),))
EMPTY_WORD = Machine(1, (0,), ())
NO_TURNER = Turner(1, (), ())
EMPTY_TURNER = Turner(1, (0,), ())
# Big letters are made greater, small ones 0.
PARTING = Turner(2, (0, 1), ((0, FROM_3, MORE_1, 1), (0, TO_2, PUT_0, 0), (1, ALL, ("more", -2), 0)))

OF_SETS = (led_into, image_of)


def random_case(chance, states=3):
    many = chance.randint(1, states)
    machine = Machine(*random_parts(chance, many, chance.randint(many, 3 * many), 3))
    return random_turner(chance, chance.randint(1, 3)), machine


def is_in_image(turner, machine, word):
    """Whether some word that the machine takes is turned into this one, looked for letter by letter."""
    pairs = image_lead(turner, machine, ((0, 0),), None)
    for letter in word:
        pairs = image_lead(turner, machine, pairs, letter)
    return is_image_end(turner, machine, pairs)


def is_image_end(turner, machine, pairs):
    return any(state in turner.ends and other in machine.ends for state, other in pairs)


def image_lead(turner, machine, pairs, letter):
    """The pairs of states that are come to by some letter that is turned into this one, () into none."""
    if letter is None:
        return pairs
    shifts = [number for state, guard, (word, number), to in turner.arrows if word == "more"]
    puts = [number for state, guard, (word, number), to in turner.arrows if word == "put"]
    tried = {letter - number for number in shifts} | (set(LETTERS) if letter in puts else set())
    found = set()
    for state, other in pairs:
        for one in tried:
            way = way_by_search(turner, state, one)
            if way is not None and way[0] == letter:
                found |= {(way[1], aim) for aim in led(machine.arrows, (other,), one)}
    return tuple(sorted(found))


def image_by_search(turner, machine):
    made = machine_by_search(((0, 0),), lambda pairs, letter: image_lead(turner, machine, pairs, letter),
                             lambda pairs: is_image_end(turner, machine, pairs))
    return least_by_search(Machine(*made)) if made[0] <= 40 else None


def led_into_by_search(turner, machine):
    def lead(pair, letter):
        way = pair and way_by_search(turner, pair[0], letter)
        return way and (way[1], led(machine.arrows, pair[1], way[0]))

    made = machine_by_search((0, (0,)), lead, lambda pair: bool(
        pair and pair[0] in turner.ends and set(pair[1]) & set(machine.ends)))
    return least_by_search(Machine(*made)) if made[0] <= 40 else None


class Sets(unittest.TestCase):
    def test_by_more(self):
        self.assertEqual(led_into(UP, BIGS), least_of(Machine(1, (0,), ((0, ("from", 2), 0),))))
        self.assertEqual(image_of(UP, BIGS), least_of(Machine(1, (0,), ((0, ("from", 4), 0),))))
        self.assertEqual(led_into(SAME, ONE_BIG), least_of(ONE_BIG))
        self.assertEqual(image_of(SAME, ONE_BIG), least_of(ONE_BIG))

    def test_by_put(self):
        self.assertEqual(led_into(NAUGHTS, BIGS), least_of(EMPTY_WORD))
        self.assertEqual(led_into(NAUGHTS, Machine(1, (0,), ((0, EVEN, 0),))), TAKES_ALL)
        naught = ("both", ("from", 0), ("to", 0))
        self.assertEqual(image_of(NAUGHTS, BIGS), least_of(Machine(1, (0,), ((0, naught, 0),))))
        self.assertEqual(image_of(NAUGHTS, ONE_BIG), least_of(Machine(2, (1,), ((0, naught, 1),))))
        self.assertEqual(image_of(Turner(1, (0,), ((0, TO_2, PUT_0, 0),)), ONE_BIG), TAKES_NONE)

    def test_turned_into_none(self):
        for turner in (NO_TURNER, Turner(2, (1,), ((0, NONE, MORE_1, 1),))):
            for machine in (TAKES_ALL, TAKES_NONE, BIGS):
                self.assertEqual(led_into(turner, machine), TAKES_NONE)
                self.assertEqual(image_of(turner, machine), TAKES_NONE)
        for function in OF_SETS:
            self.assertEqual(function(EMPTY_TURNER, TAKES_ALL), least_of(EMPTY_WORD))
            self.assertEqual(function(EMPTY_TURNER, ONE_BIG), TAKES_NONE)
            self.assertEqual(function(UP, TAKES_NONE), TAKES_NONE)
            self.assertEqual(function(UP, TAKES_ALL), TAKES_ALL)

    def test_numbers_to_their_bounds(self):
        for number in (9999, -9999):
            turner = Turner(1, (0,), ((0, ALL, ("more", number), 0),))
            self.assertIs(takes(image_of(turner, BIGS), (3 + number,)), True)
            self.assertIs(takes(image_of(turner, BIGS), (2 + number,)), False)
            self.assertIs(takes(led_into(turner, BIGS), (3 - number,)), True)
            self.assertIs(takes(led_into(turner, BIGS), (2 - number,)), False)
            put = Turner(1, (0,), ((0, ALL, ("put", number), 0),))
            self.assertEqual([takes(image_of(put, BIGS), (n,)) for n in (number - 1, number, number + 1)],
                             [False, True, False])
            self.assertEqual(led_into(put, BIGS), TAKES_ALL if number > 0 else least_of(EMPTY_WORD))

    def test_two_letters_turned_into_one(self):
        # 3 and 5 both become 4, and what is behind them isn't the same.
        turner = Turner(1, (0,), ((0, ("both", ("from", 3), ("to", 3)), ("more", 1), 0),
                                  (0, ("both", ("from", 5), ("to", 5)), ("more", -1), 0)))
        machine = Machine(4, (3,), ((0, ("to", 3), 1), (0, ("from", 5), 2), (1, ("to", 3), 3), (2, ("from", 5), 3)))
        four = ("0", 4, "1", "0")
        self.assertEqual(image_of(turner, machine), least_of(Machine(3, (2,), ((0, four, 1), (1, four, 2)))))

    def test_by_words(self):
        chance = random.Random(930)
        words = words_of([0, 1, -1, 3, 50], 3)
        for _ in range(60):
            turner, machine = random_case(chance)
            into, image = led_into(turner, machine), image_of(turner, machine)
            for told in (into, image):
                self.assertEqual(least_of(told), told)
            for word in words:
                turned = turned_by_search(turner, word)
                self.assertIs(takes(into, word), turned is not None and takes(machine, turned))
                if turned is not None and takes(machine, word):
                    self.assertIs(takes(image, turned), True)
                if len(word) < 3:
                    self.assertIs(takes(image, word), is_in_image(turner, machine, word))

    def test_by_search(self):
        chance = random.Random(931)
        found = 0
        for _ in range(120):
            turner, machine = random_case(chance, 2)
            for function, search in ((led_into, led_into_by_search), (image_of, image_by_search)):
                parts = search(turner, machine)
                if parts is not None:
                    self.assertEqual(function(turner, machine), Machine(*parts))
                    found += parts[0] > 1
        self.assertGreater(found, 30)

    def test_hangs_on_the_words_alone(self):
        chance = random.Random(932)
        for _ in range(40):
            turner, machine = random_case(chance)
            again = Machine(*renumbered(chance, (machine.many, machine.ends, machine.arrows)))
            for function in OF_SETS:
                self.assertEqual(function(turner, again), function(turner, machine))
                self.assertEqual(function(turner, least_of(machine)), function(turner, machine))

    def test_of_both_is_one_behind_the_other(self):
        chance = random.Random(933)
        for _ in range(20):
            one, machine = random_case(chance, 2)
            other = random_turner(chance, chance.randint(1, 2))
            both = turner_of_both(one, other)
            self.assertEqual(led_into(both, machine), led_into(one, led_into(other, machine)))
            self.assertEqual(image_of(both, machine), image_of(other, image_of(one, machine)))

    def test_the_image_of_what_is_led_into_lies_within(self):
        chance = random.Random(934)
        for _ in range(20):
            turner, machine = random_case(chance, 2)
            into = led_into(turner, machine)
            self.assertEqual(image_of(turner, into), both_of(machine, image_of(turner, TAKES_ALL)))

    def test_many_sets_of_a_machine(self):
        many = Machine(*last_but(5, EVEN))
        self.assertEqual(led_into(UP, many), least_of(Machine(*last_but(5, ODD))))
        self.assertEqual(image_of(UP, many), least_of(Machine(*last_but(5, ODD))))
        self.assertEqual(image_of(UP, Machine(*counted(40))), least_of(Machine(*counted(40))))

    def test_too_many(self):
        for function in OF_SETS:
            refuses_too_many(self, 64, function, SAME, Machine(*last_but(6)))
            ring = Turner(7, (0,), tuple((state, ALL, MORE_1, (state + 1) % 7) for state in range(7)))
            refuses_too_many(self, 42, function, ring, Machine(*counted(6)))
            self.assertEqual(function(ring, Machine(*counted(7))), least_of(Machine(*counted(7))))

    def test_told_where_the_machine_has_many_sets(self):
        self.assertEqual(image_of(EMPTY_TURNER, Machine(*last_but(8))), TAKES_NONE)
        self.assertEqual(led_into(NAUGHTS, Machine(*last_but(8))).many, 9)

    def test_refused_and_by_name(self):
        for function in OF_SETS:
            refuses_turners(self, lambda thing: function(thing, BIGS))
            refuses_turners(self, lambda thing: function(thing, None))
            refuses_machines(self, lambda thing: function(UP, thing))
            self.assertRaises(NoMachine, function, UP, UP)
            self.assertRaises(NoTurner, function, BIGS, UP)
            self.assertEqual(function(machine=BIGS, turner=SAME), least_of(BIGS))

    def test_the_same_again_and_nothing_is_changed(self):
        chance = random.Random(935)
        for _ in range(6):
            given = random_case(chance)
            before = copy.deepcopy(given)
            for function in OF_SETS:
                self.assertEqual(function(*given), function(*given))
            self.assertEqual(given, before)


def triple_lead(one, other):
    """Where a letter leads from a tuple (one, other, same), straight by the words of the document."""
    def lead(triple, letter):
        first, second = (None if state == -1 else way_by_search(turner, state, letter)
                         for turner, state in ((one, triple[0]), (other, triple[1])))
        same = int(triple[2] == 1 and first is not None and second is not None and first[0] == second[0])
        return (first[1] if first else -1, second[1] if second else -1, same)
    return lead


def is_otherwise(one, other, triple):
    first, second = triple[0] in one.ends, triple[1] in other.ends
    return first != second or (first and triple[2] == 0)


def turns_by_search(one, other, letters=LETTERS):
    words = walk_by_search((0, 0, 1), triple_lead(one, other), letters)
    apart = [words[triple] for triple in words if is_otherwise(one, other, triple)]
    return ("apart", ordered(apart)[0]) if apart else ("alike", tuple(sorted(words)))


def is_paper_by_search(one, other, thing):
    """Whether what is made of tuples and numbers is a turn paper, straight by the words of the document."""
    if not all(isinstance(part, tuple) and len(part) == 3 for part in thing):
        return False
    if not all(part[0] in range(-1, one.many) and part[1] in range(-1, other.many) and part[2] in (0, 1) for part in thing):
        return False
    lead = triple_lead(one, other)
    return (rises(thing) and (0, 0, 1) in thing and not any(is_otherwise(one, other, part) for part in thing)
            and all(lead(part, letter) in thing for part in thing for letter in LETTERS))


def put_otherwise(chance, turner):
    """A turner that turns alike, its states numbered otherwise, its arrows cut in two and in another order."""
    names = [0] + chance.sample(range(1, turner.many), turner.many - 1)
    arrows = []
    for state, guard, turn, to in turner.arrows:
        for cut in (EVEN, ODD):
            made = turner_of_both(Turner(1, (0,), ((0, cut, ("more", 0), 0),)), Turner(1, (0,), ((0, guard, turn, 0),)))
            arrows += [(names[state], part[1], turn, names[to]) for part in made.arrows]
    return Turner(turner.many, tuple(sorted(names[end] for end in turner.ends)), tuple(chance.sample(arrows, len(arrows))))


def random_pairs(seed, many):
    """Pairs of turners: unlike ones, alike ones put otherwise, and ones with one arrow that turns otherwise."""
    chance = random.Random(seed)
    found = []
    for at in range(many):
        one = random_turner(chance, chance.randint(1, 3), 2)
        if at % 3 == 0:
            other = random_turner(chance, chance.randint(1, 3), 2)
        else:
            other = put_otherwise(chance, one)
        if at % 3 == 1 and other.arrows:
            place = chance.randrange(len(other.arrows))
            state, guard, turn, to = other.arrows[place]
            arrow = (state, guard, (chance.choice(("more", "put")), chance.randint(-2, 2)), to)
            other = Turner(other.many, other.ends, other.arrows[:place] + (arrow,) + other.arrows[place + 1:])
        found.append((one, other))
    return found


class TurnsCompared(unittest.TestCase):
    def apart(self, one, other, word):
        self.assertEqual(turns_compared(one, other), ("apart", word))
        self.assertEqual(turns_compared(other, one), ("apart", word))
        self.assertNotEqual(turned_word(one, word), turned_word(other, word))

    def test_a_turner_with_itself(self):
        self.assertEqual(turns_compared(UP, UP), ("alike", ((0, 0, 1),)))
        self.assertEqual(turns_compared(PARTING, PARTING), ("alike", ((0, 0, 1), (1, 1, 1))))
        self.assertEqual(turns_compared(EMPTY_TURNER, EMPTY_TURNER), ("alike", ((-1, -1, 0), (0, 0, 1))))
        for turner in random_turners(940, 15):
            told, paper = turns_compared(turner, turner)
            self.assertEqual(told, "alike")
            self.assertIs(is_turn_paper(turner, turner, paper), True)

    def test_alike_put_otherwise(self):
        parted = Turner(2, (0, 1), ((0, EVEN, MORE_1, 1), (0, ODD, MORE_1, 0), (1, ALL, MORE_1, 0)))
        self.assertEqual(turns_compared(UP, parted), ("alike", ((0, 0, 1), (0, 1, 1))))
        self.assertEqual(turns_compared(parted, UP), ("alike", ((0, 0, 1), (1, 0, 1))))
        # Of one letter "more" and "put" make the same.
        naught = ("both", ("from", 0), ("to", 0))
        one = Turner(2, (1,), ((0, naught, ("more", 7), 1),))
        other = Turner(2, (1,), ((0, naught, ("put", 7), 1),))
        self.assertEqual(turns_compared(one, other), ("alike", ((-1, -1, 0), (0, 0, 1), (1, 1, 1))))

    def test_a_way_that_leads_to_no_end_is_as_none(self):
        lost = Turner(2, (0,), ((0, ALL, MORE_1, 1), (1, ALL, PUT_0, 1)))
        self.assertEqual(turns_compared(EMPTY_TURNER, lost), ("alike", ((-1, 1, 0), (0, 0, 1))))
        self.assertEqual(turns_compared(lost, EMPTY_TURNER), ("alike", ((0, 0, 1), (1, -1, 0))))
        other = Turner(2, (0,), ((0, ALL, ("more", 2), 1), (1, ALL, PUT_0, 1)))
        self.assertEqual(turns_compared(lost, other), ("alike", ((0, 0, 1), (1, 1, 0))))
        one_letter = Turner(2, (0,), ((0, ALL, ("put", 2), 1), (1, ALL, PUT_0, 1)))
        self.assertEqual(turns_compared(lost, one_letter), ("alike", ((0, 0, 1), (1, 1, 0), (1, 1, 1))))

    def test_that_turn_no_word(self):
        for one, other in itertools.product((NO_TURNER, Turner(3, (2,), ((0, ALL, MORE_1, 1), (1, NONE, PUT_0, 2)))), repeat=2):
            self.assertEqual(turns_compared(one, other)[0], "alike")
        self.assertEqual(turns_compared(NO_TURNER, NO_TURNER), ("alike", ((-1, -1, 0), (0, 0, 1))))
        self.assertEqual(turns_compared(NO_TURNER, Turner(1, (), ((0, ALL, MORE_1, 0),))),
                         ("alike", ((-1, 0, 0), (0, 0, 1))))

    def test_apart_by_the_word_of_no_letters(self):
        self.apart(UP, NO_TURNER, ())
        self.apart(EMPTY_TURNER, NO_TURNER, ())
        self.apart(Turner(2, (1,), ((0, ALL, MORE_1, 1), (1, ALL, MORE_1, 1))), UP, ())

    def test_apart_by_a_letter_that_only_one_leads_on_with(self):
        self.apart(UP, EMPTY_TURNER, (0,))
        self.apart(UP, Turner(1, (0,), ((0, TO_2, MORE_1, 0),)), (3,))
        self.apart(UP, Turner(1, (0,), ((0, ("from", -2), MORE_1, 0),)), (-3,))

    def test_apart_by_a_letter_turned_otherwise(self):
        self.apart(UP, DOWN, (0,))
        self.apart(UP, Turner(1, (0,), ((0, TO_2, MORE_1, 0), (0, FROM_3, ("more", 2), 0))), (3,))
        self.apart(UP, Turner(1, (0,), ((0, ("from", -3), MORE_1, 0), (0, ("to", -4), PUT_0, 0))), (-4,))
        self.apart(NAUGHTS, Turner(1, (0,), ((0, EVEN, PUT_0, 0), (0, ODD, MORE_1, 0))), (1,))
        self.apart(PARTING, Turner(2, (0, 1), PARTING.arrows[:2] + ((1, ALL, ("more", -3), 0),)), (3, 0))

    def test_put_and_more_that_agree_on_one_letter_alone(self):
        one = Turner(1, (0,), ((0, ALL, ("put", 7), 0),))
        other = Turner(1, (0,), ((0, ALL, ("more", 7), 0),))
        self.apart(one, other, (1,))
        self.apart(Turner(1, (0,), ((0, ALL, ("put", 8), 0),)), other, (0,))
        # Where they part, both lead to no end; where they agree, on.
        one = Turner(2, (1,), ((0, ALL, ("put", 50), 1), (1, ALL, PUT_0, 0)))
        other = Turner(2, (1,), ((0, ALL, ("more", 1), 1), (1, ALL, PUT_0, 0)))
        self.apart(one, other, (0,))
        one = Turner(2, (0,), ((0, ALL, ("put", 9999), 1),))
        other = Turner(3, (0, 2), ((0, ALL, ("more", -9999), 1), (1, EVEN, MORE_1, 2)))
        self.apart(one, other, (0, 0))
        great = Turner(2, (1,), ((0, ("from", 99), ("put", 9999), 1),))
        self.assertEqual(turns_compared(great, Turner(2, (1,), ((0, ("from", 99), ("more", -9999), 1),))), ("apart", (99,)))

    def test_a_far_letter_on_which_they_agree(self):
        # Only words of the letter 19,998 stay the same; from there on just one goes on.
        one = Turner(3, (0,), ((0, ALL, ("put", 9999), 1), (1, ALL, PUT_0, 2)))
        other = Turner(3, (0,), ((0, ALL, ("more", -9999), 1), (1, ALL, PUT_0, 2)))
        told, paper = turns_compared(one, other)
        self.assertEqual((told, paper), ("alike", ((-1, -1, 0), (0, 0, 1), (1, 1, 0), (1, 1, 1), (2, 2, 0), (2, 2, 1))))
        self.assertIs(is_turn_paper(one, other, paper), True)
        self.assertIs(is_turn_paper(one, other, tuple(part for part in paper if part != (1, 1, 1))), False)

    def test_apart_by_ends(self):
        self.apart(Turner(2, (0,), ((0, ALL, MORE_1, 1), (1, ALL, MORE_1, 0))), UP, (0,))
        one = Turner(3, (2,), ((0, ALL, MORE_1, 1), (1, ALL, MORE_1, 2)))
        self.apart(one, Turner(3, (), one.arrows), (0, 0))

    def test_the_difference_lies_ahead_of_the_end(self):
        one = Turner(3, (2,), ((0, FROM_3, MORE_1, 1), (1, ALL, MORE_1, 2)))
        other = Turner(3, (2,), ((0, FROM_3, ("more", 2), 1), (1, ALL, MORE_1, 2)))
        self.apart(one, other, (3, 0))

    def test_by_search(self):
        told = []
        for one, other in random_pairs(941, 90):
            with self.subTest(one=one, other=other):
                self.assertEqual(turns_compared(one, other), turns_by_search(one, other))
                told.append(turns_compared(one, other)[0])
        self.assertGreater(min(told.count("alike"), told.count("apart")), 20)

    def test_just_one_of_both_is_so(self):
        words = words_of([0, 1, -1, 3], 3)
        for one, other in random_pairs(942, 40):
            told, what = turns_compared(one, other)
            self.assertIs(is_turn_paper(one, other, what), told == "alike")
            if told == "apart":
                self.assertNotEqual(turned_word(one, what), turned_word(other, what))
            else:
                self.assertTrue(all(turned_word(one, word) == turned_word(other, word) for word in words))

    def test_refused_and_by_name(self):
        refuses_turners(self, lambda thing: turns_compared(thing, UP))
        refuses_turners(self, lambda thing: turns_compared(UP, thing))
        refuses_turners(self, lambda thing: turns_compared(thing, None))
        refuses_turners(self, lambda thing: is_turn_paper(thing, UP, ()))
        refuses_turners(self, lambda thing: is_turn_paper(UP, thing, ()))
        refuses_turners(self, lambda thing: is_turn_paper(thing, None, None))
        self.assertEqual(turns_compared(other=DOWN, one=UP), ("apart", (0,)))
        self.assertIs(is_turn_paper(thing=((0, 0, 1),), other=UP, one=UP), True)

    def test_the_same_again_and_nothing_is_changed(self):
        for one, other in random_pairs(943, 9):
            before = copy.deepcopy((one, other))
            self.assertEqual(turns_compared(one, other), turns_compared(one, other))
            paper = turns_compared(one, other)[1]
            self.assertIs(is_turn_paper(one, other, paper), is_turn_paper(one, other, paper))
            self.assertEqual((one, other), before)


LOST = Turner(2, (0,), ((0, ALL, MORE_1, 1), (1, EVEN, PUT_0, 1)))
LOST_PAPER = ((-1, -1, 0), (0, 0, 1), (1, 1, 0), (1, 1, 1))
PAIRS = ((UP, UP), (PARTING, PARTING), (EMPTY_TURNER, LOST), (LOST, Turner(2, (0,), ((0, ALL, ("put", 5), 1), (1, EVEN, PUT_0, 1)))))


class IsTurnPaper(unittest.TestCase):
    def look(self, one, other, thing):
        self.assertIs(is_turn_paper(one, other, thing), is_paper_by_search(one, other, thing), thing)

    def test_told_papers(self):
        for one, other in PAIRS:
            told, paper = turns_compared(one, other)
            self.assertEqual(told, "alike")
            self.assertIs(is_turn_paper(one, other, paper), True)
        self.assertEqual(turns_compared(*PAIRS[3])[1], LOST_PAPER)

    def test_more_tuples_that_are_still_one(self):
        one = Turner(3, (0, 2), ((0, FROM_3, MORE_1, 0), (2, ALL, PUT_0, 2)))
        paper = turns_compared(one, one)[1]
        self.assertEqual(paper, ((-1, -1, 0), (0, 0, 1)))
        for more in (((-1, -1, 1),), ((2, 2, 1),), ((1, 1, 0),), ((1, 1, 1),), ((1, -1, 0),), ((-1, 1, 1),),
                     ((-1, -1, 1), (1, 1, 1), (2, 2, 1))):
            self.assertIs(is_turn_paper(one, one, tuple(sorted(paper + more))), True)
        for more in (((2, 2, 0),), ((0, 0, 0),), ((0, 2, 1),), ((2, -1, 0),), ((-1, 0, 1),), ((1, 0, 0),), ((3, 3, 1),)):
            self.assertIs(is_turn_paper(one, one, tuple(sorted(paper + more))), False)

    def test_each_set_of_tuples(self):
        one = Turner(1, (), ((0, EVEN, MORE_1, 0),))
        other = Turner(1, (), ((0, ALL, ("put", 3), 0),))
        parts = list(itertools.product((-1, 0), (-1, 0), (0, 1)))
        told = 0
        for many in range(len(parts) + 1):
            for thing in itertools.combinations(parts, many):
                self.look(one, other, thing)
                told += is_turn_paper(one, other, thing)
        self.assertGreater(told, 5)

    def test_one_tuple_less(self):
        for one, other in PAIRS:
            paper = turns_compared(one, other)[1]
            for at in range(len(paper)):
                self.assertIs(is_turn_paper(one, other, paper[:at] + paper[at + 1:]), False)

    def test_otherwise_at_any_depth(self):
        for one, other in PAIRS:
            for thing in put_otherwise_anywhere(turns_compared(one, other)[1]):
                self.look(one, other, thing)

    def test_things_of_other_kinds_within(self):
        for one, other in PAIRS:
            for thing in of_wrong_kinds(turns_compared(one, other)[1]):
                self.assertIs(is_turn_paper(one, other, thing), False, thing)

    def test_truths_in_the_place_of_numbers(self):
        for thing in (((0, 0, True),), ((False, 0, 1),), ((0, False, 1),)):
            self.assertIs(is_turn_paper(UP, UP, thing), False)
        self.assertIs(is_turn_paper(EMPTY_TURNER, EMPTY_TURNER, ((-1, -1, False), (0, 0, 1))), False)

    def test_not_rising_and_twice(self):
        one, other = PAIRS[3]
        for thing in (LOST_PAPER[::-1], LOST_PAPER * 2, LOST_PAPER[:1] + LOST_PAPER, LOST_PAPER + LOST_PAPER[-1:]):
            self.assertIs(is_turn_paper(one, other, thing), False)

    def test_numbers_beyond(self):
        for more in ((-2, -1, 0), (-1, -2, 0), (1, 0, 1), (0, 1, 0), (-1, -1, 2), (-1, -1, -1), (40, 40, 0)):
            self.assertIs(is_turn_paper(EMPTY_TURNER, EMPTY_TURNER, tuple(sorted(((-1, -1, 0), (0, 0, 1), more)))), False)

    def test_anything(self):
        for one, other in PAIRS:
            for thing in anything() + [turns_compared(one, other), ((0, 0, 1), None), (0, 0, 1), (((0, 0, 1),),), "alike"]:
                self.assertIs(is_turn_paper(one, other, thing), False)

    def test_of_turners_that_are_apart(self):
        for thing in (((0, 0, 1),), ((0, 0, 0), (0, 0, 1)), ((-1, -1, 0), (0, 0, 0), (0, 0, 1))):
            self.assertIs(is_turn_paper(UP, DOWN, thing), False)


if __name__ == "__main__":
    unittest.main()
