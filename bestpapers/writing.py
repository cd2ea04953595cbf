"""Problems written as texts."""


def end_text(end):
    """Return an end in written form, or "-" if it is missing."""
    return "-" if end is None else str(end)


def sum_text(coefficients, constant, names):
    """Return the words of a sum, with its constant if that is not zero."""
    pairs = zip(coefficients, names)
    terms = [f"{number}*{name}" for number, name in pairs if number]
    if constant:
        terms.append(str(constant))
    return " + ".join(terms) if terms else "0"


def variable_line(variable):
    """Return the line of a variable."""
    words = ["var", variable.name, end_text(variable.low), end_text(variable.high)]
    if variable.whole:
        words.append("whole")
    if variable.pull == "up" and variable.low is not None:
        words.append("up")
    return " ".join(words)


def row_line(row, names):
    """Return the line of a row."""
    return f"row {row.name} {sum_text(row.coefficients, 0, names)} {row.sense} {row.right}"


def aim_line(aim, names):
    """Return the line of an aim."""
    return f"{aim.sense} {sum_text(aim.coefficients, aim.constant, names)}"


def problem_text(problem):
    """Return the text of a problem: its variables, rows and aims, line by line."""
    names = [variable.name for variable in problem.variables]
    lines = [variable_line(variable) for variable in problem.variables]
    lines = lines + [row_line(row, names) for row in problem.rows]
    lines = lines + [aim_line(aim, names) for aim in problem.aims]
    return "\n".join(lines)
