"""The words of the text of a paper, read one after another."""

from bestpapers.errors import BadNumber, BadPaper
from bestpapers.fracs import Frac

MOST_LENGTH = 300
MOST_DIGITS = 13


def is_integer_word(word):
    """Tell whether a word is the written form of an integer with few digits."""
    digits = word.removeprefix("-")
    if not digits.isdigit() or len(digits) > MOST_DIGITS:
        return False
    return str(int(word)) == word


class Words:
    """The words of a text and the place of the next one; each is taken once."""

    def __init__(self, text):
        self.words = text.split(" ")
        self.place = 0

    def peek(self):
        """Return the next word, which must be there."""
        if self.place == len(self.words):
            raise BadPaper(self.place)
        return self.words[self.place]

    def take_one_of(self, allowed):
        """Take a word that must be one of those allowed."""
        word = self.peek()
        if word not in allowed:
            raise BadPaper(self.place)
        self.place += 1
        return word

    def take_integer(self):
        """Take an integer."""
        word = self.peek()
        if not is_integer_word(word):
            raise BadPaper(self.place)
        self.place += 1
        return int(word)

    def take_length(self):
        """Take the number of the things that follow."""
        word = self.peek()
        if not is_integer_word(word) or not 0 <= int(word) <= MOST_LENGTH:
            raise BadPaper(self.place)
        self.place += 1
        return int(word)

    def take_number(self):
        """Take a number, a Frac."""
        try:
            number = Frac.read(self.peek())
        except BadNumber:
            raise BadPaper(self.place) from None
        self.place += 1
        return number

    def take_row(self):
        """Take a length and as many numbers, a tuple of Fracs."""
        return tuple([self.take_number() for _ in range(self.take_length())])

    def check_end(self):
        """Raise BadPaper if a word is left."""
        if self.place < len(self.words):
            raise BadPaper(self.place)
