"""Points [2] to [4] of desks, [121] and [122]."""

import random
import unittest

from sayarrows.alike import compared, first_word, within
from sayarrows.desk import Desk
from sayarrows.errors import BadMachine, NoDeed, NoLine, NoName, SayError, TooMany
from sayarrows.joins import again_of, backward_of, behind_of, both_of, either_of, less_of, other_of
from sayarrows.least import least_of
from sayarrows.machines import Machine, lacking_at, takes, unsure_at
from sayarrows.texts import guard_text, word_text
from tests.helper import anything, last_but, random_sayings
from tests.test_machines import random_machines
from tests.test_texts import NO_GUARDS

OF_TWO = {"both": both_of, "either": either_of, "less": less_of, "behind": behind_of}
OF_ONE = {"other": other_of, "again": again_of, "backward": backward_of, "least": least_of}

QUESTIONS = ("names", "first a", "size a", "sure a", "full a", "compare a b", "compare b a", "within a b", "takes a 3", "first b")


def ends_text(ends):
    return ",".join(str(end) for end in ends) if ends else "-"


def told(desk, *lines):
    return [desk.say(line) for line in lines]


def tell(desk, name, machine):
    """Put a machine of sayings at a desk."""
    desk.say(f"put {name} {machine.many} {ends_text(machine.ends)}")
    for state, guard, to in machine.arrows:
        desk.say(f"arrow {name} {state} {guard_text(guard)} {to}")


def desk_of_two():
    """A desk with `a`, which takes one letter from 3 on, and `b`, which takes words of even letters, not of none."""
    desk = Desk()
    for line in ("put a 2 1", "arrow a 0 >=3 1", "put b 2 1", "arrow b 0 2:0 1", "arrow b 1 2:0 1"):
        assert desk.say(line) == "ok"
    return desk


def machines_of_sayings(seed, many):
    return [machine for machine in random_machines(seed, 4 * many, 3)
            if all(len(guard) != 4 for state, guard, to in machine.arrows)][:many]


class Answers(unittest.TestCase):
    def test_put(self):
        desk = Desk()
        self.assertEqual(told(desk, "put a 1 -", "put abcdefgh 40 0,3,39", "put a 3 2", "put b 2 0,1"), ["ok"] * 4)
        self.assertEqual(desk.say("names"), "a abcdefgh b")
        self.assertEqual(told(desk, "takes abcdefgh -", "takes a -", "takes b -", "size b", "first a"), ["yes", "no", "yes", "2", "none"])

    def test_put_again_is_without_arrows(self):
        desk = desk_of_two()
        self.assertEqual(told(desk, "first a", "put a 2 1", "first a"), ["3", "ok", "none"])

    def test_arrow(self):
        desk = Desk()
        self.assertEqual(told(desk, "put a 3 2", "arrow a 0 >=3 1", "arrow a 1 (2:0|<=-5) 2", "arrow a 0 >=3 1"), ["ok"] * 4)
        self.assertEqual(told(desk, "takes a 3,4", "takes a 3,-5", "takes a 3,5", "takes a 2,4", "takes a 3", "takes a -"),
                         ["yes", "yes", "no", "no", "no", "no"])

    def test_make(self):
        for at, one in enumerate(machines_of_sayings(1300, 5)):
            other = machines_of_sayings(1301, 5)[at]
            for name in ("c", "a", "b"):
                for word, expected in [(f"{word} a b", function(one, other)) for word, function in OF_TWO.items()] + [
                        (f"{word} b a", function(other, one)) for word, function in OF_TWO.items()] + [
                        (f"{word} a", function(one)) for word, function in OF_ONE.items()]:
                    desk = Desk()
                    tell(desk, "a", one)
                    tell(desk, "b", other)
                    self.assertEqual(desk.say(f"make {name} {word}"), "ok")
                    self.assertEqual(desk.say(f"size {name}"), str(least_of(expected).many))
                    self.assertEqual(desk.say(f"first {name}"), "none" if first_word(expected) is None else word_text(first_word(expected)))

    def test_drop_and_undo(self):
        desk = desk_of_two()
        self.assertEqual(told(desk, "drop a", "names", "undo", "names", "first a"), ["ok", "b", "ok", "a b", "3"])
        self.assertEqual(told(desk, "make a other a", "first a", "undo", "first a"), ["ok", "-", "ok", "3"])
        # The arrows of b, b itself, the arrow of a, a itself.
        self.assertEqual(told(desk, "undo", "takes b 2,2", "takes b 2", "undo", "takes b 2", "undo", "names"),
                         ["ok", "no", "yes", "ok", "no", "ok", "a"])
        self.assertEqual(told(desk, "undo", "first a", "undo", "names"), ["ok", "none", "ok", "none"])
        self.assertRaises(NoDeed, desk.say, "undo")

    def test_takes(self):
        desk = desk_of_two()
        self.assertEqual(told(desk, "takes a 3", "takes a 2", "takes a -", "takes a 3,3", "takes a -3", "takes a 999999999999",
                              "takes b 0,-2,4", "takes b 0,-1"), ["yes", "no", "no", "no", "no", "yes", "yes", "no"])
        self.assertEqual(desk.say("takes a 1234567890123456789"), "yes")

    def test_compare(self):
        desk = desk_of_two()
        self.assertEqual(told(desk, "compare a a", "compare a b", "compare b a"), ["alike", "apart 0", "apart 0"])
        told(desk, "make c again a", "make d least a", "put e 2 1", "arrow e 0 <=-5 1", "put f 2 -")
        self.assertEqual(told(desk, "compare a c", "compare a d", "compare e f", "compare a e"), ["apart -", "alike", "apart -5", "apart 3"])
        told(desk, "make g behind a b", "make h behind a a")
        self.assertEqual(desk.say("compare g h"), "apart 3,0")

    def test_within(self):
        desk = desk_of_two()
        told(desk, "make c again a", "make d both a b")
        self.assertEqual(told(desk, "within a c", "within c a", "within d a", "within a d", "within a b", "within a a"),
                         ["within", "beyond -", "within", "beyond 3", "beyond 3", "within"])
        self.assertEqual(told(desk, "make e behind a a", "within e c", "within e a"), ["ok", "within", "beyond 3,3"])

    def test_first(self):
        desk = desk_of_two()
        told(desk, "put c 2 1", "put d 1 0", "make e behind a b", "put f 2 1", "arrow f 0 <=-5 1")
        self.assertEqual(told(desk, "first a", "first b", "first c", "first d", "first e", "first f"), ["3", "0", "none", "-", "3,0", "-5"])

    def test_size(self):
        desk = desk_of_two()
        self.assertEqual(told(desk, "size a", "size b", "put c 40 -", "size c", "put d 40 0", "size d"), ["3", "3", "ok", "1", "ok", "2"])

    def test_names(self):
        desk = Desk()
        self.assertEqual(told(desk, "names", "put b 1 -", "names", "put a 1 -", "put ab 1 -", "names"), ["none", "ok", "b", "ok", "ok", "a ab b"])
        self.assertEqual(told(desk, "drop a", "drop b", "drop ab", "names"), ["ok", "ok", "ok", "none"])

    def test_sure_and_full(self):
        desk = desk_of_two()
        self.assertEqual(told(desk, "sure a", "full a", "sure b", "full b"), ["yes", "0 0", "yes", "0 1"])
        told(desk, "put c 2 1", "arrow c 0 all 0", "arrow c 0 <=-3 1", "arrow c 1 all 1")
        self.assertEqual(told(desk, "sure c", "full c"), ["0 -3", "yes"])
        told(desk, "make d least c")
        self.assertEqual(told(desk, "sure d", "full d"), ["yes", "yes"])

    def test_cells(self):
        desk = Desk()
        self.assertEqual(desk.say("cells >=3"), "0=0 1=3")
        self.assertEqual(desk.say("cells all"), "1=0")
        self.assertEqual(desk.say("cells none"), "0=0")
        self.assertEqual(desk.say("cells >=3 2:0"), "01=0 00=1 10=3 11=4")
        self.assertEqual(desk.say("cells <=-2 !all"), "00=0 10=-2")
        self.assertEqual(desk.say("cells " + " ".join(f">={at}" for at in range(8))),
                         "10000000=0 11000000=1 00000000=-1 11100000=2 11110000=3 11111000=4 11111100=5 11111110=6 11111111=7")
        self.assertEqual(desk.say("names"), "none")

    def test_against_the_functions(self):
        machines = machines_of_sayings(1310, 8)
        for one, other in zip(machines, machines[1:]):
            desk = Desk()
            tell(desk, "one", one)
            tell(desk, "other", other)
            for function, line, fine in ((compared, "compare", "alike"), (within, "within", "within")):
                for first, second, names in ((one, other, "one other"), (other, one, "other one"), (one, one, "one one")):
                    kind, what = function(first, second)
                    self.assertEqual(desk.say(f"{line} {names}"), kind if kind == fine else f"{kind} {word_text(what)}")
            for function, line in ((unsure_at, "sure"), (lacking_at, "full")):
                place = function(one)
                self.assertEqual(desk.say(f"{line} one"), "yes" if place is None else f"{place[0]} {place[1]}")
            for word in ((), (3,), (0, -1), (4, 4, 4)):
                self.assertEqual(desk.say(f"takes one {word_text(word)}"), "yes" if takes(one, word) else "no")

    def test_answers_are_kept_till_a_deed(self):
        desk = desk_of_two()
        self.assertEqual(told(desk, "compare a b", "compare a b", "put a 1 0", "compare a b", "undo", "compare a b"),
                         ["apart 0", "apart 0", "ok", "apart -", "ok", "apart 0"])

    def test_by_name(self):
        self.assertEqual(Desk().say(line="names"), "none")


class Refused(unittest.TestCase):
    def setUp(self):
        self.desk = desk_of_two()
        self.answers = told(self.desk, *QUESTIONS)

    def refused(self, error, line, at=None):
        """A line is refused and nothing is changed by it."""
        with self.subTest(line=repr(line)[:90]):
            with self.assertRaises(SayError) as caught:
                self.desk.say(line)
            self.assertIs(type(caught.exception), error)
            if at is not None:
                self.assertEqual(caught.exception.at, at)
            self.assertEqual(told(self.desk, *QUESTIONS), self.answers)

    def tearDown(self):
        # What was refused is nothing that is undone.
        told(self.desk, *["undo"] * 5)
        self.assertEqual(self.desk.say("names"), "none")
        self.assertRaises(NoDeed, self.desk.say, "undo")

    def test_no_text(self):
        for line in [thing for thing in anything() if not isinstance(thing, str)] + [("names",), ["names"], b"names", Desk()]:
            self.refused(NoLine, line)

    def test_another_first_word(self):
        for line in ["", "Names", "NAMES", "name", "give a", "arrows a 0 all 1", "names\n", "names\t", "\nnames", "put\ta\t1\t-", "undo\n",
                     "a", "none", "ok", "least a", "both a b", "asked", "x" * 300, "first\ta"]:
            self.refused(NoLine, line)
        for line in [thing for thing in anything() if isinstance(thing, str)]:
            self.refused(NoLine, line)

    def test_another_number_of_words(self):
        lines = {"put": "c 1 - -", "arrow": "a 0 all 1 1", "make": "c both a b a", "drop": "a b", "undo": "a", "takes": "a 3 3",
                 "compare": "a b a", "within": "a b a", "first": "a b", "size": "a b", "names": "a", "sure": "a b", "full": "a b"}
        fewest = {"put": 3, "arrow": 4, "make": 3, "drop": 1, "undo": 0, "takes": 2, "compare": 2, "within": 2, "first": 1, "size": 1,
                  "names": 0, "sure": 1, "full": 1}
        for word, rest in lines.items():
            self.refused(NoLine, f"{word} {rest}")
            for many in range(fewest[word]):
                self.refused(NoLine, " ".join([word] + rest.split(" ")[:many]))
        self.refused(NoLine, "cells")
        self.refused(NoLine, "cells " + " ".join(["all"] * 9))
        self.refused(NoLine, "make c both a b a b")
        self.refused(NoLine, "make zz")

    def test_an_empty_word(self):
        for line in (" ", "  ", " names", "names ", "put  a 1 -", "put a  1 -", "put a 1 - ", " put a 1 -", "put a 1  ", "drop  a", "drop a ",
                     "drop ", "cells ", "cells  all", "cells all ", "cells all  none", "takes a ", "takes a  3", "undo ", "make c  a b",
                     "make c both a ", "first ", "compare a  b", "compare a ", "arrow a 0  1"):
            self.refused(NoLine, line)

    def test_numbers(self):
        wrong = ("-1", "-0", "00", "01", "+1", "x", "1.0", "0x1", "1,2", "1000000000000", "0000000000001", "9999999999999", "--1", "1\n", "\n1",
                 "all", "1_0")
        for number in wrong:
            self.refused(NoLine, f"put c {number} -")
            self.refused(NoLine, f"arrow a {number} all 1")
            self.refused(NoLine, f"arrow a 0 all {number}")
        self.refused(NoLine, "put c - -")
        for number in ("41", "0", "999999999999", "100000000000"):
            self.refused(BadMachine, f"put c {number} -", -2)
        for number in ("2", "40", "999999999999"):
            self.refused(BadMachine, f"arrow a {number} all 1", 1)
            self.refused(BadMachine, f"arrow a 0 all {number}", 1)

    def test_ends(self):
        for ends in ("-1", "--", "-,1", "1,-", "0,", ",0", ",", "0,,1", "00", "0,01", "+1", "x", "0;1", "0,x", "0,-1", "1000000000000",
                     "0,1000000000000", "none", "()", "-0", "0,\t1"):
            self.refused(NoLine, f"put c 2 {ends}")
            self.refused(NoLine, f"put C 99 {ends}")
        for ends in ("2", "1,0", "0,0", "0,1,2", "0,999999999999", "1,1"):
            self.refused(BadMachine, f"put c 2 {ends}", -1)
            self.refused(BadMachine, f"put a 2 {ends}", -1)

    def test_words(self):
        for word in ("--", "-0", "01", "+1", "1,", ",1", "1,,2", "x", "-,1", "1;2", "1,-", "none", "()"):
            self.refused(NoLine, f"takes a {word}")
            self.refused(NoLine, f"takes nowhere {word}")

    def test_guards(self):
        for guard in [text for text in NO_GUARDS if " " not in text and text] + ["!" * 30 + "all"]:
            self.refused(NoLine, f"arrow a 0 {guard} 1")
            self.refused(NoLine, f"arrow c 9 {guard} 9")
            self.refused(NoLine, f"cells {guard}")
            self.refused(NoLine, f"cells all {guard} all")

    def test_a_shape_in_the_place_of_a_saying(self):
        for shape in ("[0 3 . 1]", "[1 0 . 1]"):
            self.refused(NoLine, f"arrow a 0 {shape} 1")
            self.refused(NoLine, f"cells {shape}")
            self.refused(NoLine, f"cells all {shape}")

    def test_no_line_goes_ahead_of_all_else(self):
        for line in ("put A x -", "put A 99 x", "put a 99 -1", "arrow nowhere 0 all x", "arrow nowhere x all 0", "arrow a 99 al 0",
                     "takes nowhere x", "takes A 1,"):
            self.refused(NoLine, line)

    def test_names(self):
        for name in ("A", "a1", "abcdefghi", "a-b", "-", "1", "a\n", "a\t"):
            self.refused(NoName, f"put {name} 1 -")
            self.refused(NoName, f"put {name} 99 -")
            self.refused(NoName, f"put {name} 2 1,0")
            self.refused(NoName, f"make {name} both a b")
            self.refused(NoName, f"make {name} nothing x")
        for name in ("c", "aa", "A", "a1", "abcdefghi", "none", "-", "a\n"):
            for line in (f"arrow {name} 0 all 1", f"arrow {name} 99 all 99", f"drop {name}", f"takes {name} 3", f"compare {name} a", f"compare a {name}",
                         f"within {name} a", f"within a {name}", f"first {name}", f"size {name}", f"sure {name}", f"full {name}",
                         f"make d both a {name}", f"make d both {name} a", f"make d least {name}"):
                self.refused(NoName, line)

    def test_deeds(self):
        for line in ("make c nothing a", "make c nothing a b", "make c both a", "make c least a b", "make c put a", "make c both x",
                     "make c BOTH a b", "make c least x y", "make c - a"):
            self.refused(NoDeed, line)


class Others(unittest.TestCase):
    def test_too_many(self):
        desk = Desk()
        tell(desk, "a", Machine(*last_but(6)))
        tell(desk, "b", Machine(*last_but(2)))
        for line, many in (("make b least a", 64), ("make c other a", 64), ("make b both a a", 64), ("size a", 64)):
            with self.assertRaises(TooMany) as caught:
                desk.say(line)
            self.assertEqual((caught.exception.many, caught.exception.most), (many, 40))
        self.assertEqual(told(desk, "names", "size b"), ["a b", "4"])
        self.assertRaises(NoName, desk.say, "make b both a c")

    def test_1600_arrows(self):
        desk = Desk()
        desk.say("put a 2 1")
        for _ in range(1600):
            desk.say("arrow a 0 all 1")
        with self.assertRaises(BadMachine) as caught:
            desk.say("arrow a 0 all 1")
        self.assertEqual(caught.exception.at, 1600)
        self.assertEqual(told(desk, "first a", "undo", "first a"), ["0", "ok", "0"])

    def test_two_desks_have_nothing_in_common(self):
        one, other = desk_of_two(), Desk()
        self.assertEqual(other.say("names"), "none")
        self.assertRaises(NoDeed, other.say, "undo")
        other.say("put a 1 0")
        self.assertEqual((one.say("first a"), other.say("first a")), ("3", "-"))

    def test_the_same_again(self):
        desk = desk_of_two()
        self.assertEqual(told(desk, *QUESTIONS), told(desk, *QUESTIONS))
        sayings = " ".join(guard_text(saying) for saying in random_sayings(1320, 8))
        self.assertEqual(desk.say(f"cells {sayings}"), desk.say(f"cells {sayings}"))

    def test_whatever_is_said(self):
        # Lines put together by chance are answered with a text or refused by one of the errors told.
        chance = random.Random(1321)
        forms = ("put N 3 E", "arrow N F G F", "make N W N", "make N W N N", "drop N", "undo", "takes N L", "compare N N", "within N N",
                 "first N", "size N", "names", "sure N", "full N", "cells G G G")
        parts = {"N": ("a", "b", "c", "A"), "E": ("-", "2", "0,1", "1,0", "x"), "F": ("0", "1", "2", "3", "-1"),
                 "G": (">=3", "2:0", "!all", "(all&none)", "al"), "W": tuple(OF_TWO) + tuple(OF_ONE) + ("no",),
                 "L": ("-", "3", "0,4", "1,")}
        desk, answered, refused = Desk(), 0, set()
        for _ in range(3000):
            line = " ".join(chance.choice(parts.get(word, (word,))) for word in chance.choice(forms).split(" "))
            try:
                self.assertIs(type(desk.say(line)), str)
                answered += 1
            except (NoLine, NoName, BadMachine, NoDeed, TooMany) as error:
                refused.add(type(error).__name__)
        self.assertGreater(answered, 500)
        self.assertLessEqual({"NoLine", "NoName", "BadMachine", "NoDeed"}, refused)


if __name__ == "__main__":
    unittest.main()
