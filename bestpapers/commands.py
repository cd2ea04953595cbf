"""The commands of a desk.

Each command takes the moment before it and the words of a line; it returns the moment
behind it and its reply, or raises WrongLine or BadNumber if the words are wrong.
"""

from bestpapers.edits import check_words, edit, is_edit
from bestpapers.errors import BadCount, BadName, BadNumber, NoName
from bestpapers.judges import judge
from bestpapers.lines import WrongLine
from bestpapers.names import is_name
from bestpapers.refusals import BadCommand, NoAnswer, NothingToRedo, NothingToUndo
from bestpapers.solving import solve
from bestpapers.worths import worth
from bestpapers.writing import problem_text

CUTS = ("0", "1", "2", "3", "4")


def problem_of(moment):
    """Return the present problem; without a variable there is none."""
    problem, _ = moment.parts
    if problem is None:
        raise BadCount("variables", 0)
    return problem


def last_answer(moment):
    """Return the last answer, if there is one."""
    if moment.last is None:
        raise NoAnswer()
    return moment.last


def answer_words(answer):
    """Return the words that tell an answer."""
    words = [answer.kind]
    if answer.kind == "empty":
        return words
    if answer.kind == "endless":
        words.append(str(answer.at))
    totals = [str(number) for number in answer.totals]
    return words + totals + ["at"] + [str(number) for number in answer.point]


def solve_it(moment, words):
    """Solve the present problem and keep the answer as the last one."""
    if len(words) > 2 or not all([word in CUTS for word in words[1:]]):
        raise WrongLine()
    cuts = int(words[1]) if len(words) == 2 else 0
    answer = solve(problem_of(moment), cuts=cuts)
    return (moment.solved(answer), " ".join(answer_words(answer)))


def keep_it(moment, words):
    """Keep the paper of the last answer under a name."""
    check_words(words, 2)
    if not is_name(words[1]):
        raise BadName(words[1])
    problem, papers = moment.parts
    kept = dict(papers)
    kept[words[1]] = last_answer(moment).paper
    return (moment.changed(problem, kept), "ok")


def kept_in(moment, name):
    """Return the paper that is kept under a name."""
    _, papers = moment.parts
    if name not in papers:
        raise NoName(name)
    return papers[name]


def worth_it(moment, words):
    """Tell what a kept paper is worth for the present problem."""
    check_words(words, 2)
    paper = kept_in(moment, words[1])
    found = worth(problem_of(moment), paper)
    return (moment, "nothing" if found is None else str(found))


def judge_it(moment, words):
    """Tell whether the judge accepts the last answer for the present problem."""
    check_words(words, 1)
    answer = last_answer(moment)
    return (moment, "yes" if judge(problem_of(moment), answer) else "no")


def show_it(moment, words):
    """Tell the text of the present problem."""
    check_words(words, 1)
    problem, _ = moment.parts
    return (moment, "" if problem is None else problem_text(problem))


def undo_it(moment, words):
    """Take the latest change back."""
    check_words(words, 1)
    if not moment.past:
        raise NothingToUndo()
    return (moment.undone(), "ok")


def redo_it(moment, words):
    """Bring back what was undone last."""
    check_words(words, 1)
    if not moment.future:
        raise NothingToRedo()
    return (moment.redone(), "ok")


COMMANDS = {
    "solve": solve_it,
    "keep": keep_it,
    "worth": worth_it,
    "judge": judge_it,
    "show": show_it,
    "undo": undo_it,
    "redo": redo_it,
}


def obeyed(moment, words):
    """Return (moment, reply) behind the command that some words are."""
    if is_edit(words[0]):
        problem, papers = moment.parts
        return (moment.changed(edit(problem, words), papers), "ok")
    if words[0] not in COMMANDS:
        raise WrongLine()
    command = COMMANDS[words[0]]
    return command(moment, words)


def done(moment, line):
    """Return (moment, reply) behind the command that a line is."""
    if "\n" in line:
        raise BadCommand(line)
    try:
        return obeyed(moment, line.split(" "))
    except (WrongLine, BadNumber):
        raise BadCommand(line) from None
