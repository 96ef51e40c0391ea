"""A learner: it learns a machine by asking of words, and by the least word that parts its own machine from it."""

from sayarrows.alike import compared
from sayarrows.errors import NoHead, NoPlain, NoWhole
from sayarrows.least import least_of
from sayarrows.machines import Machine, come_to, letters_by_aim, takes
from sayarrows.sayings import is_whole, is_word, letter_key
from sayarrows.shapes import ROUND, meeting, outside, trimmed


def is_period(thing):
    """Whether a thing is a whole number from 1 on by which 60 is divided without rest."""
    return is_whole(thing) and thing >= 1 and ROUND % thing == 0


def goes_by(machine, period):
    """Whether each left and right of a least machine's guards is the same again after a period."""
    sides = [side for state, (left, low, middle, right), to in machine.arrows for side in (left, right)]
    return all([period % len(side) == 0 for side in sides])


def letters_at_first(period):
    """The letters that are tried at a new head: as many as the period tells from 0 on and as many below."""
    return sorted(range(-period, period), key=letter_key)


def letters_from(letter, period):
    """The shape of the letters that leave the same remainder from a letter on, away from 0."""
    signs = "".join(["1" if place == letter % period else "0" for place in range(period)])
    if letter >= 0:
        return trimmed("0", letter, "", signs)
    return trimmed(signs, letter + 1, "", "0")


def letters_near(letters, period):
    """For each of some letters, in their order, the shape of those whose near one it is."""
    shapes = []
    for at, letter in enumerate(letters):
        shape = letters_from(letter, period)
        further = [other for other in letters[at + 1:]
                   if (other >= 0) == (letter >= 0) and other % period == letter % period]
        if further:
            shape = meeting(shape, outside(letters_from(further[0], period)))
        shapes.append(shape)
    return shapes


class Table:
    """What a learner keeps: heads, the tried letters of each, tails, the answers to words asked of, and rows."""

    def __init__(self, goal, period):
        self.goal = goal
        self.period = period
        self.head_list = [()]
        self.letters = {(): letters_at_first(period)}
        self.tail_list = [()]
        self.answers = {}
        self.rows = {}

    def copied(self):
        """Another table that keeps the same."""
        other = Table(self.goal, self.period)
        other.head_list = list(self.head_list)
        other.letters = {head: list(self.letters[head]) for head in self.head_list}
        other.tail_list = list(self.tail_list)
        other.answers = {word: self.answers[word] for word in self.answers}
        other.rows = {word: self.rows[word] for word in self.rows}
        return other

    def answer(self, word):
        """Whether the machine that is learnt takes a word; that it was asked of is kept."""
        if word not in self.answers:
            self.answers[word] = takes(self.goal, word)
        return self.answers[word]

    def row(self, word):
        """The truths whether the machine that is learnt takes a word with each tail behind it."""
        # Tails are never lost, so what is known of a row stays, and only what came behind it is asked.
        known = self.rows.get(word, ())
        if len(known) < len(self.tail_list):
            known = known + tuple([self.answer(word + tail) for tail in self.tail_list[len(known):]])
            self.rows[word] = known
        return known

    def places(self):
        """The place of each head by its row."""
        return {self.row(head): at for at, head in enumerate(self.head_list)}

    def new_head(self):
        """The first head with a tried letter behind it whose row no head has, None where there is none."""
        places = self.places()
        for head in self.head_list:
            for letter in self.letters[head]:
                word = head + (letter,)
                if self.row(word) not in places:
                    return word
        return None

    def add_head(self, head):
        """Make a word the last head."""
        self.head_list.append(head)
        self.letters[head] = letters_at_first(self.period)

    def arrows_from(self, state, places):
        """The arrows from a head of the machine that the table tells."""
        head = self.head_list[state]
        letters = self.letters[head]
        aims = [places[self.row(head + (letter,))] for letter in letters]
        sides = letters_by_aim(list(zip(letters_near(letters, self.period), aims)))
        return [(state, sides[aim], aim) for aim in sorted(sides)]

    def machine_told(self):
        """The machine that the table tells, where there is no new head."""
        places = self.places()
        many = len(self.head_list)
        ends = [state for state, head in enumerate(self.head_list) if self.answer(head)]
        arrows = [arrow for state in range(many) for arrow in self.arrows_from(state, places)]
        return Machine(many, tuple(ends), tuple(arrows))

    def take_in(self, machine, word):
        """Learn from a word that parts the machine told from the one that is learnt."""
        head = ()
        truth = self.answer(word)
        for at, letter in enumerate(word):
            # The machine told is sure and full, so there is one state.
            after = self.head_list[come_to(machine, word[:at + 1])[0]]
            rest = word[at + 1:]
            if self.answer(after + rest) != truth:
                self.add_letter_and_tail(head, letter, rest)
                return
            head = after

    def add_letter_and_tail(self, head, letter, tail):
        """Make a letter one that is tried at a head, and a word the last tail, where they aren't."""
        if letter not in self.letters[head]:
            self.letters[head] = sorted(self.letters[head] + [letter], key=letter_key)
        if tail not in self.tail_list:
            self.tail_list.append(tail)


class Learner:
    """What learns a machine step by step."""

    def __init__(self, machine, *, period=1):
        goal = least_of(machine)
        if not is_period(period) or not goes_by(goal, period):
            raise NoPlain()
        self.table = Table(goal, period)

    def step(self):
        """The next step: ("head", word), ("apart", word) or ("done", machine)."""
        head = self.table.new_head()
        if head is not None:
            self.table.add_head(head)
            return "head", head
        machine = self.table.machine_told()
        answer = compared(machine, self.table.goal)
        if answer[0] == "alike":
            return "done", least_of(machine)
        self.table.take_in(machine, answer[1])
        return answer

    def heads(self):
        """The heads, in the order in which they came."""
        return list(self.table.head_list)

    def tails(self):
        """The tails, in the order in which they came."""
        return list(self.table.tail_list)

    def tried(self, head):
        """The letters that are tried at a head, in their order."""
        if not is_word(head) or head not in self.table.letters:
            raise NoHead()
        return list(self.table.letters[head])

    def asked(self):
        """How many unlike words were asked of so far."""
        return len(self.table.answers)

    def table_machine(self):
        """The machine that the table tells; nothing that is asked for it counts."""
        table = self.table.copied()
        if table.new_head() is not None:
            raise NoWhole()
        return table.machine_told()

    def twin(self):
        """Another learner that goes on as this one would."""
        other = Learner(self.table.goal, period=self.table.period)
        other.table = self.table.copied()
        return other


def learnt(machine, *, period=1, most=200):
    """The steps of a new learner till one is "done", that one too, so many at most."""
    learner = Learner(machine, period=period)
    if not is_whole(most) or most < 0:
        raise NoPlain()
    steps = []
    while len(steps) < most and (steps == [] or steps[-1][0] != "done"):
        steps.append(learner.step())
    return steps
