"""All errors of the program: what is refused is refused by one of these."""


class SayError(ValueError):
    """What every error of the program is."""


class NoSaying(SayError):
    """What should be a saying is none."""


class NoLetter(SayError):
    """What should be a letter, or a number within its bounds, is none."""


class NoWord(SayError):
    """What should be a word, or a list of words, is none."""


class NoGuard(SayError):
    """What should be a saying or a shape is neither."""


class NoShape(SayError):
    """What should be a shape is none."""


class NoGuards(SayError):
    """What should be a tuple of at most eight guards is none."""


class NoMachine(SayError):
    """What should be a Machine is none."""


class NoTurner(SayError):
    """What should be a Turner is none."""


class NoPlain(SayError):
    """A period or a number of steps is none that a learner can go by."""


class NoHead(SayError):
    """What should be a head of a learner is none."""


class NoWhole(SayError):
    """The table of a learner tells no machine yet."""


class NoName(SayError):
    """What should be a name, or one that is there, is none."""


class NoDeed(SayError):
    """What should be a deed, or one to be undone, is none."""


class NoLine(SayError):
    """What should be a line for a desk is none."""


class BadMachine(SayError):
    """No machine can be made: at is -2, -1 or the place of an arrow."""

    def __init__(self, at):
        super().__init__(f"no machine, at {at}")
        self.at = at


class BadTurner(SayError):
    """No turner can be made: at is -2, -1 or the place of an arrow."""

    def __init__(self, at):
        super().__init__(f"no turner, at {at}")
        self.at = at


class NoText(SayError):
    """A text writes nothing: line is the first that is none, 0 of no text."""

    def __init__(self, line):
        super().__init__(f"nothing is written so, line {line}")
        self.line = line


class TooMany(SayError):
    """There are many states where at most so many may be told."""

    def __init__(self, many, most):
        super().__init__(f"{many} states, {most} at most")
        self.many = many
        self.most = most
