"""Answers as texts, line by line."""

from bestpapers.answers import Answer
from bestpapers.errors import BadNumber, BadText
from bestpapers.fracs import Frac
from bestpapers.papertexts import paper_text, read_paper

MOST_NUMBERS = 24
FIGURES = "0123456789"
# The lines of numbers that an answer of a kind has, between its kind and its paper.
ROWS = {
    "told": ("totals", "point"),
    "best": ("totals", "point"),
    "empty": (),
    "endless": ("totals", "point", "ray"),
}


def answer_text(answer):
    """Return the text of an answer."""
    lines = [answer.kind]
    if answer.kind == "endless":
        lines = [f"endless {answer.at}"]
    rows = {"totals": answer.totals, "point": answer.point, "ray": answer.ray}
    for name in ROWS[answer.kind]:
        lines.append(" ".join([name] + [str(number) for number in rows[name]]))
    lines.append(f"paper {paper_text(answer.paper)}")
    return "\n".join(lines)


def read_kind(line):
    """Return the kind and at that the first line tells; at is None but for "endless"."""
    if line in ("told", "best", "empty"):
        return line, None
    figure = line.removeprefix("endless ")
    if line == figure or len(figure) != 1 or figure not in FIGURES:
        raise BadText(0)
    return "endless", int(figure)


def read_numbers(lines, at, name):
    """Return the numbers that a line of this name tells."""
    if at >= len(lines):
        raise BadText(at)
    words = lines[at].split(" ")
    if words[0] != name or len(words) > MOST_NUMBERS + 1:
        raise BadText(at)
    try:
        return [Frac.read(word) for word in words[1:]]
    except BadNumber:
        raise BadText(at) from None


def check_last_lines(lines, last):
    """Raise BadText unless the line of the paper is there, and none behind it."""
    if last >= len(lines) or not lines[last].startswith("paper "):
        raise BadText(last)
    if len(lines) > last + 1:
        raise BadText(last + 1)


def read_answer(text):
    """Return the answer that a text tells; the answer need not be right."""
    lines = text.split("\n")
    kind, at = read_kind(lines[0])
    rows = [read_numbers(lines, line, name) for line, name in enumerate(ROWS[kind], 1)]
    last = len(rows) + 1
    check_last_lines(lines, last)
    paper = read_paper(lines[last].removeprefix("paper "))
    if kind == "told":
        return Answer.told(rows[0], rows[1], paper)
    if kind == "best":
        return Answer.best(rows[0], rows[1], paper)
    if kind == "empty":
        return Answer.empty(paper)
    return Answer.endless(at, rows[0], rows[1], rows[2], paper)
