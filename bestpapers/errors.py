"""The base of all errors, and the errors about numbers, problems and papers."""


class BestError(ValueError):
    """The base of every error that the program raises."""


class DivisionByZero(BestError):
    """A number was divided by zero."""


class BadNumber(BestError):
    """A text is not the written form of a number."""

    def __init__(self, text):
        self.text = text


class BadCount(BestError):
    """There are too few or too many things of one kind."""

    def __init__(self, what, many):
        self.what = what
        self.many = many


class UnlikeParts(BestError):
    """Two Talls with different numbers of parts were put together."""

    def __init__(self, left, right):
        self.left = left
        self.right = right


class BadName(BestError):
    """A string is not a name."""

    def __init__(self, name):
        self.name = name


class NoEnd(BestError):
    """A variable has neither a low nor a high end."""

    def __init__(self, name):
        self.name = name


class Crossed(BestError):
    """A low end is greater than the high end."""

    def __init__(self, name):
        self.name = name


class NotWhole(BestError):
    """A whole variable has an end that is missing or not whole."""

    def __init__(self, name):
        self.name = name


class BadPull(BestError):
    """A pull is unknown, or goes to an end that is missing."""

    def __init__(self, name):
        self.name = name


class BadSense(BestError):
    """The sense of a row or of an aim is unknown."""

    def __init__(self, sense):
        self.sense = sense


class SameName(BestError):
    """Two variables or rows of a problem have the same name."""

    def __init__(self, name):
        self.name = name


class TooWide(BestError):
    """The whole variables of a problem have too many values."""

    def __init__(self, width, many):
        self.width = width
        self.many = many


class WrongWidth(BestError):
    """A sequence does not have as many numbers as were needed."""

    def __init__(self, have, need):
        self.have = have
        self.need = need


class NoName(BestError):
    """Nothing has the given name."""

    def __init__(self, name):
        self.name = name


class NoItem(BestError):
    """There is no item with the given index."""

    def __init__(self, at):
        self.at = at


class NoSplit(BestError):
    """A node cannot be halved at the given place."""

    def __init__(self, variable, k):
        self.variable = variable
        self.k = k


class NoAim(BestError):
    """There is no aim with the given index, or not that many aims."""

    def __init__(self, aim):
        self.aim = aim


class UnlikeAims(BestError):
    """Two problems do not have the same numbers or senses of aims."""

    def __init__(self, left, right):
        self.left = left
        self.right = right


class BadFactor(BestError):
    """A row was to be multiplied by zero."""


class BadOrder(BestError):
    """An order does not name each row exactly once."""

    def __init__(self, order):
        self.order = tuple(order)


class BadText(BestError):
    """A line of a text is wrong."""

    def __init__(self, line):
        self.line = line


class Unfit(BestError):
    """A paper does not fit a problem."""


class NotAllWhole(BestError):
    """A variable of the problem is not whole."""


class BadPaper(BestError):
    """A word of the text of a paper is wrong."""

    def __init__(self, place):
        self.place = place
