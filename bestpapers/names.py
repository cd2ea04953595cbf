"""The names of variables, rows and kept papers."""

LETTERS = "abcdefghijklmnopqrstuvwxyz"
FIGURES = "0123456789"
MOST_CHARACTERS = 12
# The texts of problems use these words for other things.
WORDS = ("var", "row", "min", "max", "whole", "up", "down")


def is_name(text):
    """Tell whether a string is a name."""
    if not 1 <= len(text) <= MOST_CHARACTERS or text in WORDS:
        return False
    if text[0] not in LETTERS:
        return False
    return all([char in LETTERS or char in FIGURES or char == "_" for char in text])
