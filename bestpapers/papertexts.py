"""Papers as texts, word by word."""

from bestpapers.errors import BadPaper
from bestpapers.heads import INSIDE, assembled, head_of
from bestpapers.paperforms import papers_inside
from bestpapers.words import Words

MOST_DEPTH = 199
REASONS = ("added", "rounded", "split")


def row_words(numbers):
    """Return the words of a tuple of numbers: how many there are, and the numbers."""
    return [str(len(numbers))] + [str(number) for number in numbers]


def reason_words(reason):
    """Return the words of a reason."""
    if reason[0] != "split":
        return [reason[0]] + row_words(reason[1])
    _, variable, k, low_prices, high_prices = reason
    return ["split", str(variable), str(k)] + row_words(low_prices) + row_words(high_prices)


def head_words(head):
    """Return the words of a paper without those of the papers inside it."""
    if head[0] == "empty":
        return ["empty"] + row_words(head[1])
    if head[0] == "derive":
        _, coefficients, right, reason = head
        return ["derive"] + row_words(coefficients) + [str(right)] + reason_words(reason)
    if head[0] == "floors":
        words = ["floors", str(len(head[1]))]
        for multipliers, prices in head[1]:
            words.extend(row_words(multipliers) + row_words(prices))
        return words
    return [str(part) for part in head]


def paper_text(paper):
    """Return the text of a paper."""
    words = []
    waiting = [paper]
    while waiting:
        part = waiting.pop()
        words.extend(head_words(head_of(part)))
        waiting.extend(papers_inside(part)[::-1])
    return " ".join(words)


def read_reason(words):
    """Return the reason that the next words tell."""
    form = words.take_one_of(REASONS)
    if form != "split":
        return (form, words.take_row())
    variable = words.take_integer()
    k = words.take_integer()
    low_prices = words.take_row()
    return ("split", variable, k, low_prices, words.take_row())


def read_floor_line(words):
    """Return the line of a "floors" that the next words tell."""
    multipliers = words.take_row()
    return (multipliers, words.take_row())


def read_head(words):
    """Return the head of a paper that the next words tell."""
    form = words.take_one_of(list(INSIDE))
    if form == "empty":
        return (form, words.take_row())
    if form == "floors":
        return (form, tuple([read_floor_line(words) for _ in range(words.take_length())]))
    if form == "listed":
        return (form, words.take_integer())
    if form == "branch":
        variable = words.take_integer()
        return (form, variable, words.take_integer())
    coefficients = words.take_row()
    right = words.take_number()
    return (form, coefficients, right, read_reason(words))


def read_paper(text):
    """Return the paper that a text tells."""
    words = Words(text)
    heads = []
    waiting = [0]
    while waiting:
        depth = waiting.pop()
        if depth > MOST_DEPTH:
            raise BadPaper(words.place)
        head = read_head(words)
        heads.append(head)
        waiting.extend([depth + 1] * INSIDE[head[0]])
    words.check_end()
    return assembled(heads)
