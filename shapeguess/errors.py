"""The errors of the package. Each of them keeps its arguments as attributes."""


def told(value):
    """Return a short text for anything. What is long or deep is left out, since writing it out could itself fail."""
    if isinstance(value, str) and len(value) <= 40:
        return repr(value)
    if isinstance(value, int) and -1000000 < value < 1000000:
        return str(value)
    return "(not shown)"


class GuessError(ValueError):
    """The base of all errors about what is wrong in itself."""


class NameMissing(LookupError):
    """The base of all errors about what does not exist."""


class BadPaper(GuessError):
    """A paper, a question or a branch is not right."""

    def __init__(self):
        GuessError.__init__(self, "not a right paper, question or branch")


class BadShape(GuessError):
    """A shape, or a change by shapes, is not possible."""

    def __init__(self):
        GuessError.__init__(self, "not a possible shape or change")


class BadChoice(GuessError):
    """A choice cannot be made now."""

    def __init__(self):
        GuessError.__init__(self, "not a choice that can be made now")


class MixedPrograms(GuessError):
    """Two states belong to different programs or books."""

    def __init__(self):
        GuessError.__init__(self, "the programs or the books differ")


class BadName(GuessError):
    """A name is not a word, or is reserved."""

    def __init__(self, name):
        GuessError.__init__(self, f"not a word that may stand here: {told(name)}")
        self.name = name


class TwiceTold(GuessError):
    """A name is told a second time."""

    def __init__(self, name):
        GuessError.__init__(self, f"told twice: {told(name)}")
        self.name = name


class BadVariant(GuessError):
    """A variant has wrong kinds, or is applied to wrong values."""

    def __init__(self, name):
        GuessError.__init__(self, f"wrong kinds or values for the variant {told(name)}")
        self.name = name


class BadBook(GuessError):
    """A book has a wrong size, table or key."""

    def __init__(self, name):
        GuessError.__init__(self, f"the book is wrong at {told(name)}")
        self.name = name


class BadState(GuessError):
    """A part of a state is wrong."""

    def __init__(self, word):
        GuessError.__init__(self, f"the state is wrong at: {told(word)}")
        self.word = word


class BadTree(GuessError):
    """A part of a program has the wrong form."""

    def __init__(self, path):
        path = tuple(path)
        text = ", ".join([told(number) for number in path])
        GuessError.__init__(self, f"a wrong part at the path ({text})")
        self.path = path


class BadText(GuessError):
    """A text is refused at a place."""

    def __init__(self, place):
        GuessError.__init__(self, f"the text is refused at the place {told(place)}")
        self.place = place


class BadVersion(GuessError):
    """A version is wrong at a place."""

    def __init__(self, place):
        GuessError.__init__(self, "the version is wrong")
        self.place = place


class StuckRow(GuessError):
    """A version is stuck at a quick row."""

    def __init__(self, number):
        GuessError.__init__(self, f"stuck at the quick row {told(number)}")
        self.number = number


class TooLong(GuessError):
    """A run takes more than its limit."""

    def __init__(self, limit):
        GuessError.__init__(self, f"no end within {told(limit)}")
        self.limit = limit


class UnknownName(NameMissing):
    """A name or a number does not exist."""

    def __init__(self, name):
        NameMissing.__init__(self, f"unknown: {told(name)}")
        self.name = name


class NoFunction(NameMissing):
    """A function does not exist in the program."""

    def __init__(self, name):
        NameMissing.__init__(self, f"no function of the program: {told(name)}")
        self.name = name


class NoVersion(NameMissing):
    """A version does not exist."""

    def __init__(self, number):
        NameMissing.__init__(self, f"no version with the number {told(number)}")
        self.number = number


class NotThere(NameMissing):
    """An object, a shape or a slot does not exist."""

    def __init__(self, number):
        NameMissing.__init__(self, f"not there: {told(number)}")
        self.number = number
