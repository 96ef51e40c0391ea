"""A yard: machines kept by names, with deeds that can be undone, and what is told of two of them kept."""

from sayarrows.alike import compared
from sayarrows.cells import cut
from sayarrows.errors import NoDeed, NoName
from sayarrows.joins import again_of, backward_of, behind_of, both_of, either_of, less_of, other_of
from sayarrows.least import least_of
from sayarrows.machines import ask_machine
from sayarrows.shapes import guard_shape

SIGNS = "abcdefghijklmnopqrstuvwxyz"
MOST_SIGNS = 8

# How many machines each word makes one of.
WIDTHS = {"both": 2, "either": 2, "less": 2, "behind": 2, "other": 1, "again": 1, "backward": 1, "least": 1}


def is_name(thing):
    """Whether a thing is a name: a text of one to eight signs from `a` to `z`."""
    return isinstance(thing, str) and 1 <= len(thing) <= MOST_SIGNS and thing.strip(SIGNS) == ""


def ask_name(thing):
    """Refuse what is no name."""
    if not is_name(thing):
        raise NoName()


def ask_making(word, names):
    """Refuse what no machine is made by: another word, no tuple, another number of names."""
    if not isinstance(word, str) or word not in WIDTHS:
        raise NoDeed()
    if not isinstance(names, tuple) or len(names) != WIDTHS[word]:
        raise NoDeed()


def made_of_two(word, one, other):
    """The machine that a word makes of two."""
    if word == "both":
        return both_of(one, other)
    if word == "either":
        return either_of(one, other)
    if word == "less":
        return less_of(one, other)
    return behind_of(one, other)


def made_of_one(word, machine):
    """The machine that a word makes of one."""
    if word == "other":
        return other_of(machine)
    if word == "again":
        return again_of(machine)
    if word == "backward":
        return backward_of(machine)
    return least_of(machine)


def made_of(word, machines):
    """The machine that a word makes of as many as it needs."""
    if WIDTHS[word] == 2:
        return made_of_two(word, machines[0], machines[1])
    return made_of_one(word, machines[0])


def unlike_guards(one, other):
    """The guards of all arrows of two machines, the first one's first, each of those that are == once."""
    # By how they are shown: a saying may be deeper than a key should be.
    guards = {}
    for state, guard, to in one.arrows + other.arrows:
        guards.setdefault(repr(guard), guard)
    return list(guards.values())


def asks_between(one, other):
    """How many times is asked to cut all letters by the guards of two machines."""
    pieces, asks = cut([guard_shape(guard) for guard in unlike_guards(one, other)])
    return asks


class Yard:
    """Machines by their names."""

    def __init__(self):
        self.by_name = {}
        # Each deed as its name and the machine that this named ahead, None where there was none.
        self.deeds = []
        self.answers = {}
        self.times = 0
        self.asks = 0

    def __len__(self):
        """How many names there are."""
        return len(self.by_name)

    def __eq__(self, other):
        """Whether another yard has the same names and machines."""
        return isinstance(other, Yard) and self.by_name == other.by_name

    def __repr__(self):
        """How many machines it keeps."""
        return f"Yard({len(self.by_name)} machines)"

    def let_name(self, name, machine):
        """Let a name be that of a machine, or of none; what was told of the name is kept no more."""
        if machine is None:
            del self.by_name[name]
        else:
            self.by_name[name] = machine
        self.answers = {pair: self.answers[pair] for pair in self.answers if name not in pair}

    def do(self, name, machine):
        """Do a deed that can be undone."""
        self.deeds.append((name, self.by_name.get(name)))
        self.let_name(name, machine)

    def put(self, name, machine):
        """Let a name be that of a machine."""
        ask_name(name)
        ask_machine(machine)
        self.do(name, machine)

    def drop(self, name):
        """Let a name be there no more."""
        self.ask_there(name)
        self.do(name, None)

    def make(self, name, word, names):
        """Let a name be that of the machine that a word makes of those of other names."""
        ask_name(name)
        ask_making(word, names)
        machines = [self.machine(part) for part in names]
        self.do(name, made_of(word, machines))

    def undo(self):
        """Undo the last deed that was done and not undone."""
        if len(self.deeds) == 0:
            raise NoDeed()
        name, machine = self.deeds.pop()
        self.let_name(name, machine)

    def ask_there(self, name):
        """Refuse what is no name that is there."""
        if not is_name(name) or name not in self.by_name:
            raise NoName()

    def names(self):
        """The names, rising."""
        return sorted(self.by_name)

    def machine(self, name):
        """The machine of a name."""
        self.ask_there(name)
        return self.by_name[name]

    def compared(self, one, other):
        """Whether the machines of two names are alike or apart; it is reckoned once for as long as both stay."""
        first = self.machine(one)
        second = self.machine(other)
        if (one, other) not in self.answers:
            self.answers[one, other] = compared(first, second)
            self.times += 1
            self.asks += asks_between(first, second)
        return self.answers[one, other]

    def reckoned(self):
        """How many times was compared anew."""
        return self.times

    def asked(self):
        """How many times was asked for cells, over all these times together."""
        return self.asks

    def twin(self):
        """Another yard of the same names, machines and deeds to be undone, which has kept nothing."""
        other = Yard()
        other.by_name = dict(self.by_name)
        other.deeds = list(self.deeds)
        return other
