"""Margins: boxes that are wider than they were by less than every fraction."""


class Margins:
    """The ends of items with margins, as lists of integers, of which the first one decides.

    The first number is the end, multiplied by the scale of the item. Each item that was
    not held at first has a place behind it, for the number of its margins.
    """

    def __init__(self, wholes, held):
        marked = [at for at in range(len(wholes.rows)) if at not in held]
        self.wholes = wholes
        self.places = {at: 1 + place for place, at in enumerate(marked)}

    def end(self, at, side):
        """Return the widened end of an item at a side, None if it is missing."""
        low, high = self.wholes.boxes[at]
        end = low if side == "low" else high
        if end is None:
            return None
        found = [end] + [0 for _ in self.places]
        if at in self.places:
            scale = self.wholes.scales[at]
            found[self.places[at]] = -scale if side == "low" else scale
        return found


def plus(left, number, right):
    """Return the list left plus a number times the list right."""
    return [a + number * b for a, b in zip(left, right)]
