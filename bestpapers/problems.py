"""Problems: variables, rows and aims that belong together."""

from bestpapers.checks import check_count, check_width
from bestpapers.errors import NoName, SameName, TooWide


def place_of(things, name):
    """Return the index of the variable or the row of this name among others."""
    for at, thing in enumerate(things):
        if thing.name == name:
            return at
    raise NoName(name)


def has_whole(problem, at):
    """Tell whether an index is that of a whole variable."""
    return 0 <= at and at < problem.n and problem.variables[at].whole


def spread_of(variables):
    """Return the sum of high - low over the whole variables, an integer."""
    total = 0
    for variable in variables:
        if variable.whole:
            total = total + (variable.high - variable.low).num
    return total


def assignments_of(variables):
    """Return in how many ways the whole variables take values, an integer."""
    many = 1
    for variable in variables:
        if variable.whole:
            many = many * ((variable.high - variable.low).num + 1)
    return many


def check_variables(variables):
    """Raise the first error of the variables of a problem."""
    check_count("variables", len(variables), 1, Problem.MOST_VARIABLES)
    names = {}
    for variable in variables:
        if variable.name in names:
            raise SameName(variable.name)
        names[variable.name] = True
    width = spread_of(variables)
    many = assignments_of(variables)
    if width > Problem.MOST_SPREAD or many > Problem.MOST_ASSIGNMENTS:
        raise TooWide(width, many)


def check_rows(rows, variables):
    """Raise the first error of the rows of a problem with these variables."""
    check_count("rows", len(rows), 0, Problem.MOST_ROWS)
    names = {variable.name: True for variable in variables}
    for row in rows:
        if row.name in names:
            raise SameName(row.name)
        names[row.name] = True
        check_width(len(row.coefficients), len(variables))


def check_aims(aims, n):
    """Raise the first error of the aims of a problem with n variables."""
    check_count("aims", len(aims), 0, Problem.MOST_AIMS)
    for aim in aims:
        check_width(len(aim.coefficients), n)


class Problem:
    """Variables, rows and aims; it never changes."""

    MOST_VARIABLES = 16
    MOST_ROWS = 16
    MOST_AIMS = 3
    MOST_SPREAD = 40
    MOST_ASSIGNMENTS = 1024

    def __init__(self, variables, rows=(), aims=()):
        self.variables = tuple(variables)
        self.rows = tuple(rows)
        self.aims = tuple(aims)
        self.n = len(self.variables)
        self.m = len(self.rows)
        check_variables(self.variables)
        check_rows(self.rows, self.variables)
        check_aims(self.aims, self.n)
        self._by_name = {item.name: item for item in self.variables + self.rows}

    @property
    def spread(self):
        """The sum of high - low over the whole variables."""
        return spread_of(self.variables)

    @property
    def assignments(self):
        """The product of high - low + 1 over the whole variables."""
        return assignments_of(self.variables)

    def __contains__(self, name):
        return name in self._by_name

    def __getitem__(self, name):
        if name not in self._by_name:
            raise NoName(name)
        return self._by_name[name]

    def __iter__(self):
        return iter(self.rows)
