"""Papers of a problem that the presolver made smaller, led back to the outer problem."""

from bestpapers.fracs import as_frac
from bestpapers.halves import half_boxes
from bestpapers.heads import assembled
from bestpapers.paperforms import papers_inside
from bestpapers.stages import stage_rows
from bestpapers.vectors import as_fracs, reduced, zeros


def widened_row(remains, numbers):
    """Return the outer row that has numbers at the variables that are left, 0 elsewhere."""
    row = list(zeros(remains.outer.n))
    for place, number in zip(remains.places, numbers):
        row[place] = as_frac(number)
    return tuple(row)


class Spot:
    """A place in a paper that is led back: the outer boxes, and the derived rows above it."""

    def __init__(self, remains, boxes, extra):
        self.remains = remains
        self.boxes = boxes
        self.extra = extra

    def led_prices(self, row, prices):
        """Return the outer prices that show of an outer row what these prices show."""
        m = self.remains.problem.m
        numbers = as_fracs(prices)
        outer = self.remains.outer_prices(numbers[:m])
        rest = self.remains.rest_of(row, outer)
        for price, coefficients in zip(numbers[m:], self.extra):
            if price:
                rest = reduced(rest, price, coefficients)
        return outer + self.remains.end_prices(rest, self.boxes) + numbers[m:]

    def halved(self, variable, k):
        """Return the spots in the low and in the high half at k of an outer variable."""
        pair = half_boxes(self.boxes, variable, k)
        return [Spot(self.remains, boxes, self.extra) for boxes in pair]

    def led_reason(self, row, reason):
        """Return a reason for an outer row, led back."""
        if reason[0] != "split":
            return (reason[0], self.led_prices(row, reason[1]))
        _, variable, k, low_prices, high_prices = reason
        place = self.remains.places[variable]
        low, high = self.halved(place, k)
        return ("split", place, k, low.led_prices(row, low_prices), high.led_prices(row, high_prices))

    def led_lines(self, lines):
        """Return the lines of a "floors", led back."""
        rows = stage_rows(self.remains.outer)
        places = stage_places(self.remains)
        many = len(rows)
        if len(lines) < len(places):
            many = places[len(lines) - 1] + 1 if lines else 0
        by_place = dict(zip(places, lines))
        # Where a variable was taken out, its end alone shows the number of its stage.
        none = ((), zeros(self.remains.problem.m + len(self.extra)))
        return tuple([self.led_line(rows, places, stage, by_place.get(stage, none))
                      for stage in range(many)])

    def led_line(self, rows, places, stage, line):
        """Return the line of an outer stage, from a line of the inner problem."""
        numbers, prices = line
        multipliers = list(zeros(stage))
        row = rows[stage]
        for place, number in zip(places, numbers):
            if number:
                multipliers[place] = as_frac(number)
                row = reduced(row, number, rows[place])
        return (tuple(multipliers), self.led_prices(row, prices))

    def led_head(self, paper):
        """Return the head of a paper, led back."""
        if paper[0] == "empty":
            return ("empty", self.led_prices(zeros(self.remains.outer.n), paper[1]))
        if paper[0] == "floors":
            return ("floors", self.led_lines(paper[1]))
        if paper[0] == "branch":
            return ("branch", self.remains.places[paper[1]], paper[2])
        if paper[0] == "derive":
            row = widened_row(self.remains, paper[1])
            return ("derive", row, as_frac(paper[2]), self.led_reason(row, paper[3]))
        return paper

    def inside(self, paper):
        """Return the spots of the papers inside a paper."""
        if paper[0] == "branch":
            return self.halved(self.remains.places[paper[1]], paper[2])
        if paper[0] == "derive":
            extra = self.extra + (widened_row(self.remains, paper[1]),)
            return [Spot(self.remains, self.boxes, extra)]
        return []


def stage_places(remains):
    """Return the list of the outer indexes of the stages of the inner problem."""
    aims = len(remains.outer.aims)
    return list(range(aims)) + [aims + place for place in remains.places]


def led_paper(remains, paper):
    """Return a paper of the inner problem, led back, below the heads of the ends that were set."""
    heads = list(remains.heads)
    waiting = [(Spot(remains, remains.outer_boxes(), ()), paper)]
    while waiting:
        spot, part = waiting.pop()
        heads.append(spot.led_head(part))
        pairs = list(zip(spot.inside(part), papers_inside(part)))
        waiting.extend(pairs[::-1])
    return assembled(heads)


def led_point(remains, numbers):
    """Return the outer point with numbers at the variables that are left, and the values of the others."""
    point = list(remains.ends["low"])
    for place, number in zip(remains.places, numbers):
        point[place] = as_frac(number)
    return tuple(point)
