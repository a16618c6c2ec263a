"""The errors that the package raises, each with what was passed as its attributes."""


class SumsError(ValueError):
    """A value that was passed is not valid."""


class InvalidColumns(SumsError):
    """Not a count of columns."""

    def __init__(self, value):
        self.value = value


class InvalidForm(SumsError):
    """Not a form."""

    def __init__(self, value):
        self.value = value


class InvalidLetter(SumsError):
    """Not a letter of as many columns."""

    def __init__(self, value):
        self.value = value


class InvalidMany(SumsError):
    """Not a count in its bounds."""

    def __init__(self, value):
        self.value = value


class InvalidNumber(SumsError):
    """Not a number that is wanted there."""

    def __init__(self, value):
        self.value = value


class InvalidPosition(SumsError):
    """Not a position that is there."""

    def __init__(self, value):
        self.value = value


class InvalidProgram(SumsError):
    """Not a program."""

    def __init__(self, value):
        self.value = value


class InvalidReader(SumsError):
    """Not a reader."""

    def __init__(self, value):
        self.value = value


class InvalidRow(SumsError):
    """Not a row of as many numbers as columns."""

    def __init__(self, value):
        self.value = value


class InvalidTable(SumsError):
    """Not a table."""

    def __init__(self, value):
        self.value = value


class InvalidTally(SumsError):
    """Not a tally."""

    def __init__(self, value):
        self.value = value


class InvalidWord(SumsError):
    """Not a word of as many columns."""

    def __init__(self, value):
        self.value = value


class DividedByZero(SumsError):
    """A number was divided by 0."""

    def __init__(self):
        pass


class InvalidAnswers(SumsError):
    """Not a list of answers to the asked tables."""

    def __init__(self, value):
        self.value = value


class InvalidClaim(SumsError):
    """Not a claim."""

    def __init__(self, value):
        self.value = value


class InvalidColumn(SumsError):
    """Not a column that is there."""

    def __init__(self, value):
        self.value = value


class InvalidCommand(SumsError):
    """Not a command."""

    def __init__(self, value):
        self.value = value


class InvalidDeeds(SumsError):
    """A line of a list of deeds is no deed; None: there is no list."""

    def __init__(self, position):
        self.position = position


class InvalidHigh(SumsError):
    """Not an end of a piece of the table."""

    def __init__(self, value):
        self.value = value


class InvalidLast(SumsError):
    """Not the last numbers of a reader."""

    def __init__(self, value):
        self.value = value


class InvalidLots(SumsError):
    """Not a list of lots of like rows."""

    def __init__(self, value):
        self.value = value


class InvalidLow(SumsError):
    """Not a begin of a piece of the table."""

    def __init__(self, value):
        self.value = value


class InvalidNumbers(SumsError):
    """Not a list of as many numbers as are wanted."""

    def __init__(self, value):
        self.value = value


class InvalidOthers(SumsError):
    """Not a list of what is put into the columns."""

    def __init__(self, value):
        self.value = value


class InvalidPaper(SumsError):
    """Not a paper of a claim or of its contrary."""

    def __init__(self, value):
        self.value = value


class InvalidParts(SumsError):
    """Not a list of parts."""

    def __init__(self, value):
        self.value = value


class InvalidPolynomial(SumsError):
    """Not a polynomial in words."""

    def __init__(self, value):
        self.value = value


class InvalidRows(SumsError):
    """Not a list of rows."""

    def __init__(self, value):
        self.value = value


class InvalidRuns(SumsError):
    """Not runs of like rows."""

    def __init__(self, value):
        self.value = value


class InvalidSide(SumsError):
    """Not a side."""

    def __init__(self, value):
        self.value = value


class InvalidStart(SumsError):
    """Not the start of a reader."""

    def __init__(self, value):
        self.value = value


class InvalidSteps(SumsError):
    """Not a list of steps."""

    def __init__(self, value):
        self.value = value


class InvalidText(SumsError):
    """A text has a wrong line; None: it is no text."""

    def __init__(self, line):
        self.line = line


class InvalidWhere(SumsError):
    """Not a place to look at."""

    def __init__(self, value):
        self.value = value


class InvalidWords(SumsError):
    """Not a list of Lyndon words."""

    def __init__(self, value):
        self.value = value


class MissingError(LookupError):
    """Something that was asked for is not there."""


class UnknownLabel(MissingError):
    """No claim is noted under this label."""

    def __init__(self, value):
        self.value = value


class UnknownName(MissingError):
    """Nothing of the wanted sort is kept under this name."""

    def __init__(self, value):
        self.value = value


class StateError(RuntimeError):
    """What was passed is valid, but does not go together, or not now."""


class UnlikeColumns(StateError):
    """Things for unlike numbers of columns were put together."""

    def __init__(self):
        pass


class CommandFailed(StateError):
    """One of several commands failed."""

    def __init__(self, position):
        self.position = position


class LabelTaken(StateError):
    """A claim is noted under this label already."""

    def __init__(self, label):
        self.label = label


class NameTaken(StateError):
    """Something is kept under this name already."""

    def __init__(self, name):
        self.name = name


class NotForward(StateError):
    """The form has a term with a right word."""

    def __init__(self):
        pass


class NothingToRedo(StateError):
    """No deed was taken back that could be done again."""

    def __init__(self):
        pass


class NothingToUndo(StateError):
    """There is no deed that could be taken back."""

    def __init__(self):
        pass


class LimitError(ArithmeticError):
    """An answer would go beyond a bound."""


class TooMany(LimitError):
    """There would be more of something than its limit."""

    def __init__(self, what, limit):
        self.what = what
        self.limit = limit
