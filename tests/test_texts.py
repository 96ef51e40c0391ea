"""Points [2] to [4] of texts, and [120]."""

import copy
import random
import unittest

from sayarrows.errors import NoGuard, NoMachine, NoText, NoWord, SayError
from sayarrows.least import least_of
from sayarrows.machines import Machine
from sayarrows.shapes import moved_on, shape_of
from sayarrows.texts import guard_text, machine_text, read_guard, read_machine, read_word, word_text
from sayarrows.turners import Turner
from tests.helper import anything, nots, random_guard, random_parts, random_sayings, wide
from tests.test_machines import random_machines, refuses_machines

ALL = ("all",)
NONE = ("none",)
FROM_3 = ("from", 3)
EVEN = ("rest", 2, 0)

GUARDS = {
    "all": ALL, "none": NONE, ">=3": FROM_3, ">=-99": ("from", -99), ">=99": ("from", 99), ">=0": ("from", 0),
    "<=-3": ("to", -3), "<=0": ("to", 0), "<=99": ("to", 99), "6:5": ("rest", 6, 5), "2:0": EVEN, "3:2": ("rest", 3, 2),
    "!all": ("not", ALL), "!!none": ("not", ("not", NONE)), "!6:5": ("not", ("rest", 6, 5)), "!>=-1": ("not", ("from", -1)),
    "(>=3&2:0)": ("both", FROM_3, EVEN), "(>=3|2:0)": ("either", FROM_3, EVEN), "(all&!none)": ("both", ALL, ("not", NONE)),
    "!(all|none)": ("not", ("either", ALL, NONE)), "((all&none)|(<=-1|5:4))":
        ("either", ("both", ALL, NONE), ("either", ("to", -1), ("rest", 5, 4))),
    "(!!>=3&(<=4|!(4:1&none)))":
        ("both", ("not", ("not", FROM_3)), ("either", ("to", 4), ("not", ("both", ("rest", 4, 1), NONE)))),
    "[0 3 . 1]": ("0", 3, "", "1"), "[1 0 0 1]": ("1", 0, "0", "1"), "[10 0 . 10]": ("10", 0, "", "10"),
    "[0 -5 101 0]": ("0", -5, "101", "0"), "[1 0 . 1]": ("1", 0, "", "1"), "[0 0 . 0]": ("0", 0, "", "0"),
    "[01 -12 101 0]": ("01", -12, "101", "0"),
}

# What writes no guard at all.
NO_GUARDS = [
    "", " ", "al", "alll", "ALL", "all ", " all", "all\n", "\nall", "all\t", "allall", "all all", "any", "(all)", "()", "(", ")",
    "!", "!!", "! all", "not all", ">=", ">3", ">= 3", ">=03", ">=-0", ">=+3", ">=00", ">=-03", ">=100", ">=-100", ">=3.", ">=--3",
    ">=3 ", ">=a", "<=", "<3", "=<3", "<=100", "<=-100", "<=-0", "<=01", "3", "-3", "2:", ":0", "2:2", "1:0", "0:0", "7:0", "6:6",
    "6:-1", "6:05", "06:5", "6 :5", "6: 5", "6:5:4", "6:+5", "-6:5", "6:-0", "+6:5", "60:1", "(all&all", "all&all)", "all&all",
    "(all&)", "(&all)", "(all all)", "(all& all)", "(all &all)", "( all&all)", "(all&all )", "(all&&all)", "(all&all&all)",
    "(all|all|all)", "(all&all|all)", "(all,all)", "(all&all))", "((all&all)", "(all/all)", "!(all)", "[", "]", "[]", "[ ]",
    "[0 3 . 1", "0 3 . 1]", "0 3 . 1", "[0 3  1]", "[0 3 1]", "[0 3 . 1 1]", "[0  3 . 1]", "[ 0 3 . 1]", "[0 3 . 1 ]", "[0 3 . 1] ",
    " [0 3 . 1]", "[0 3 . 1]\n", "[0,3,.,1]", "[0 03 . 1]", "[0 +3 . 1]", "[0 -0 . 1]", "[0 3 .. 1]", "[. 3 . 1]", "[0 3 . .]",
    "[0 . . 1]", "[0 x . 1]", "[2 3 . 1]", "[0 3 2 1]", "[0 3 .0 1]", "[[0 3 . 1]]", "[0\t3 . 1]", "[0 3 '' 1]",
    # Shapes that tell a set otherwise.
    "[00 3 . 1]", "[0 2 0 1]", "[0 3 1 1]", "[0 3 . 0]", "[1 5 . 1]", "[1 0 1 1]", "[1010 0 . 10]", "[10 1 . 10]", "[10 0 1 10]",
    "[0000001 0 . 0]", "[0 3 . 11]", "!" * 30 + "all", "!" * 200, "(" * 200, "!" * 296 + "all",
]


def refuses(case, line, function, text):
    with case.subTest(text=repr(text)[:90]):
        with case.assertRaises(NoText) as caught:
            function(text)
        case.assertIs(type(caught.exception.line), int)
        case.assertEqual(caught.exception.line, line)
        case.assertIsInstance(caught.exception, SayError)


def no_texts():
    return [thing for thing in anything() if not isinstance(thing, str)] + [("all",), (), b"all", ["-"], ("machine 1\nends\n",)]


class Guards(unittest.TestCase):
    def test_written_and_read(self):
        for text, guard in GUARDS.items():
            self.assertEqual(guard_text(guard), text)
            self.assertEqual(read_guard(text), guard)

    def test_thirty_and_thirty_one_tuples(self):
        self.assertEqual(guard_text(nots(30)), "!" * 29 + "all")
        self.assertEqual(read_guard("!" * 29 + "all"), nots(30))
        refuses(self, 1, read_guard, "!" * 30 + "all")
        text = "(" * 14 + ">=0" + "&<=9)" * 14
        self.assertEqual(guard_text(wide(29)), text)
        self.assertEqual(read_guard(text), wide(29))
        self.assertEqual(read_guard("!" + text), ("not", wide(29)))
        refuses(self, 1, read_guard, "!!" + text)
        refuses(self, 1, read_guard, "(" + text + "&<=9)")

    def test_what_is_written_is_read_again_the_same(self):
        for saying in random_sayings(1200, 200, 30):
            self.assertEqual(read_guard(guard_text(saying)), saying)
            shape = shape_of(saying)
            self.assertEqual(read_guard(guard_text(shape)), shape)

    def test_shapes_whatever_their_size(self):
        shape = shape_of(("both", ("from", -99), ("to", 99)))
        for _ in range(20):
            shape = moved_on(shape, 9999)
        self.assertEqual(read_guard(guard_text(shape)), shape)
        self.assertEqual(guard_text(("0", 12345678901, "", "1")), "[0 12345678901 . 1]")

    def test_no_text(self):
        for text in NO_GUARDS:
            refuses(self, 1, read_guard, text)
        for thing in no_texts():
            refuses(self, 0, read_guard, thing)
        for text in [thing for thing in anything() if isinstance(thing, str) and thing != "all"]:
            refuses(self, 1, read_guard, text)

    def test_one_sign_otherwise(self):
        # Whatever is read writes itself again, just so.
        chance = random.Random(1201)
        read = 0
        for text in list(GUARDS) * 40:
            at = chance.randrange(len(text))
            sign = chance.choice("0123456789-!&|()<>=:[]. alno")
            text = chance.choice((text[:at] + sign + text[at:], text[:at] + text[at + 1:], text[:at] + sign + text[at + 1:]))
            try:
                guard = read_guard(text)
            except NoText as error:
                self.assertEqual(error.line, 1)
            else:
                read += 1
                self.assertEqual(guard_text(guard), text)
        self.assertGreater(read, 100)

    def test_no_guard(self):
        for thing in anything() + ["all", ">=3", ("from", 100), nots(31), ("0", 3, "", "0"), None, ("all", 1)]:
            self.assertRaises(NoGuard, guard_text, thing)

    def test_by_name(self):
        self.assertEqual(guard_text(guard=FROM_3), ">=3")
        self.assertEqual(read_guard(text=">=3"), FROM_3)


class Words(unittest.TestCase):
    def test_written_and_read(self):
        for text, word in (("-", ()), ("0", (0,)), ("-1", (-1,)), ("0,0", (0, 0)), ("3,-4,0,12", (3, -4, 0, 12)),
                           ("999999999999,-999999999999", (10 ** 12 - 1, 1 - 10 ** 12)),
                           ("123456789012345678901234567890", (123456789012345678901234567890,))):
            self.assertEqual(word_text(word), text)
            self.assertEqual(read_word(text), word)

    def test_what_is_written_is_read_again_the_same(self):
        chance = random.Random(1210)
        for many in range(31):
            word = tuple(chance.randint(-10 ** chance.randint(0, 12), 10 ** chance.randint(0, 12)) for _ in range(many))
            self.assertEqual(read_word(word_text(word)), word)

    def test_figures_however_many(self):
        for text in ("9" * 300, "-" + "7" * 299, "1" + "0" * 250):
            self.assertEqual(word_text(read_word(text)), text)
            self.assertEqual(read_word(text), (int(text),))

    def test_no_text(self):
        for text in ("", " ", "--", "--1", "-0", "+1", "01", "00", "-01", "1,", ",1", ",", "1,,2", "1, 2", "1 ,2", " 1", "1 ", "1\n",
                     "\n1", "1.0", "1,-", "-,1", "-,-", "()", "(1)", "a", "1;2", "1,2,x", "1,02", "1,+2", "1,-0", "1_0", "1\t", "- ",
                     " -", "0x1", "1e3", "- 1"):
            refuses(self, 1, read_word, text)
        for thing in no_texts():
            refuses(self, 0, read_word, thing)

    def test_no_word(self):
        for thing in anything() + [[1], (True,), (1, None), "1", 1]:
            self.assertRaises(NoWord, word_text, thing)

    def test_by_name(self):
        self.assertEqual(word_text(word=(1,)), "1")
        self.assertEqual(read_word(text="1"), (1,))


class Machines(unittest.TestCase):
    def test_written(self):
        self.assertEqual(machine_text(Machine(1, (), ())), "machine 1\nends\n")
        self.assertEqual(machine_text(Machine(40, (0, 3, 39), ())), "machine 40\nends 0 3 39\n")
        machine = Machine(2, (1,), ((0, ALL, 1), (1, ("0", 3, "", "1"), 0), (1, ("both", FROM_3, EVEN), 1)))
        self.assertEqual(machine_text(machine),
                         "machine 2\nends 1\narrow 0 all 1\narrow 1 [0 3 . 1] 0\narrow 1 (>=3&2:0) 1\n")

    def test_what_is_written_is_read_again_the_same(self):
        for machine in random_machines(1220, 60) + [Machine(1, (), ()), Machine(40, tuple(range(40)), ())]:
            self.assertEqual(read_machine(machine_text(machine)), machine)
            told = least_of(machine)
            self.assertEqual(read_machine(machine_text(told)), told)
        chance = random.Random(1221)
        many, ends, arrows = random_parts(chance, 40, 1600, 2)
        self.assertEqual(read_machine(machine_text(Machine(many, ends, arrows))), Machine(many, ends, arrows))

    def test_read(self):
        self.assertEqual(read_machine("machine 1\nends\n"), Machine(1, (), ()))
        self.assertEqual(read_machine("machine 2\nends 0 1\narrow 1 !all 0\n"), Machine(2, (0, 1), ((1, ("not", ALL), 0),)))

    def test_the_first_line(self):
        for line in ("", "machine", "machine ", "machine 0", "machine 41", "machine -1", "machine 01", "machine +1", "machine  1",
                     " machine 1", "machine 1 ", "machine 1 1", "Machine 1", "machine one", "machines 1", "ends", "machine\t1",
                     "machine 999999999999999", "machine 1.0"):
            refuses(self, 1, read_machine, line + "\nends\n")
            refuses(self, 1, read_machine, line + "\n")
            refuses(self, 1, read_machine, line + "\nnothing\nnothing\n")

    def test_the_second_line(self):
        for line in ("", "end", "ends ", "ends  1", " ends", "ends 1 0", "ends 0 0", "ends 2", "ends -1", "ends -0", "ends 00", "ends 01",
                     "ends 0 ", "ends 0  1", "ends 0,1", "ends +1", "ends x", "ends 0 x", "Ends", "arrow 0 all 1", "machine 2",
                     "ends 0 1 2", "ends\t0", "ends -"):
            refuses(self, 2, read_machine, f"machine 2\n{line}\n")
            refuses(self, 2, read_machine, f"machine 2\n{line}\narrow 0 all 1\nnothing\n")

    def test_lines_missing(self):
        refuses(self, 2, read_machine, "machine 2\n")
        refuses(self, 1, read_machine, "\n")
        refuses(self, 1, read_machine, "\n\n")
        refuses(self, 1, read_machine, "ends\n")
        refuses(self, 1, read_machine, "\nmachine 2\nends\n")
        refuses(self, 2, read_machine, "machine 2\narrow 0 all 1\n")

    def test_arrows(self):
        wrong = ["", " ", "arrow", "arrow ", "arrow 0 all", "arrow 0 1", "arrow 0 all 1 ", " arrow 0 all 1", "arrow  0 all 1", "arrow 0  all 1",
                 "arrow 0 all  1", "arrow 2 all 1", "arrow 0 all 2", "arrow -1 all 1", "arrow 0 all -1", "arrow 00 all 1", "arrow 0 all 01",
                 "arrow -0 all 1", "arrow +0 all 1", "arrow x all 1", "arrow 0 all x", "arrow 0 all all 1", "arrow 0 1 all", "Arrow 0 all 1",
                 "arrows 0 all 1", "ends", "ends 1", "machine 2", "arrow 0 all 1 1", "arrow\t0 all 1", "arrow 0 [0 3 . 1]", "arrow 0 0 3 . 1 1"]
        wrong += [f"arrow 0 {guard} 1" for guard in NO_GUARDS if "\n" not in guard]
        for line in wrong:
            refuses(self, 3, read_machine, f"machine 2\nends 1\n{line}\n")
            refuses(self, 4, read_machine, f"machine 2\nends 1\narrow 0 [0 3 . 1] 1\n{line}\narrow 0 all 1\nnothing\n")

    def test_no_line_end_last(self):
        for text in ("", "machine 2", "machine 2\nends", "machine 2\nends 1\narrow 0 all 1", "nothing", "machine 99\nends", " ",
                     "machine 2\nends\n ", "\nmachine 2"):
            refuses(self, 0, read_machine, text)
        for thing in no_texts():
            refuses(self, 0, read_machine, thing)
        for text in [thing for thing in anything() if isinstance(thing, str)]:
            refuses(self, 1 if text.endswith("\n") else 0, read_machine, text)

    def test_empty_lines(self):
        refuses(self, 3, read_machine, "machine 2\nends\n\n")
        refuses(self, 4, read_machine, "machine 2\nends\narrow 0 all 1\n\n")
        refuses(self, 3, read_machine, "machine 2\nends\n\narrow 0 all 1\n")

    def test_how_many_arrows(self):
        head, arrow = "machine 2\nends\n", "arrow 0 all 1\n"
        self.assertEqual(len(read_machine(head + arrow * 1600).arrows), 1600)
        refuses(self, 1603, read_machine, head + arrow * 1601)
        refuses(self, 1603, read_machine, head + arrow * 1700)
        refuses(self, 1603, read_machine, head + arrow * 1650 + "nothing\n")
        refuses(self, 1602, read_machine, head + arrow * 1599 + "nothing\n" + arrow)
        refuses(self, 3, read_machine, head + "nothing\n" + arrow * 1600)

    def test_refused(self):
        refuses_machines(self, machine_text)
        self.assertRaises(NoMachine, machine_text, Turner(1, (), ()))

    def test_by_name_and_nothing_is_changed(self):
        machine = Machine(2, (1,), ((0, random_guard(random.Random(1222)), 1),))
        before = copy.deepcopy(machine)
        text = machine_text(machine=machine)
        self.assertEqual(read_machine(text=text), machine)
        self.assertEqual(machine_text(machine), text)
        self.assertEqual(machine, before)


if __name__ == "__main__":
    unittest.main()
