"""The lines of the texts of problems, taken apart word by word."""

from bestpapers.errors import BestError
from bestpapers.fracs import Frac

SENSES = ("<=", ">=", "=")


class WrongLine(BestError):
    """The words of a line do not stand as they must; it never leaves the program."""


def read_end(word):
    """Return an end, None if it is missing."""
    return None if word == "-" else Frac.read(word)


def split_terms(words):
    """Return the terms of a sum: every second word, with a plus between them."""
    many = len(words) // 2
    if len(words) != 2 * many + 1 or words[1::2] != ["+"] * many:
        raise WrongLine()
    return words[::2]


def read_terms(terms, names):
    """Return the coefficients of terms NUMBER*NAME, one for each of the names."""
    found = {}
    for term in terms:
        number, star, name = term.partition("*")
        if not star or name not in names or name in found:
            raise WrongLine()
        found[name] = Frac.read(number)
    return [found.get(name, 0) for name in names]


def read_sum(words, names):
    """Return the coefficients of the words of a sum without a constant."""
    if words == ["0"]:
        return read_terms([], names)
    return read_terms(split_terms(words), names)


def read_aim_sum(words, names):
    """Return the coefficients and the constant of the words of a sum."""
    terms = split_terms(words)
    if "*" in terms[-1]:
        return read_terms(terms, names), 0
    return read_terms(terms[:-1], names), Frac.read(terms[-1])


def read_variable(words):
    """Return the name, low, high, whole and pull of the words of a line of a variable."""
    if len(words) < 4:
        raise WrongLine()
    whole = words[4:5] == ["whole"]
    pulls = words[5:] if whole else words[4:]
    if pulls not in ([], ["up"], ["down"]):
        raise WrongLine()
    pull = pulls[0] if pulls else None
    return words[1], read_end(words[2]), read_end(words[3]), whole, pull


def read_row(words, names):
    """Return the name, coefficients, sense and right side of the words of a line of a row."""
    if len(words) < 5 or words[-2] not in SENSES:
        raise WrongLine()
    return words[1], read_sum(words[2:-2], names), words[-2], Frac.read(words[-1])


def read_aim(words, names):
    """Return the sense, coefficients and constant of the words of a line of an aim."""
    coefficients, constant = read_aim_sum(words[1:], names)
    return words[0], coefficients, constant
