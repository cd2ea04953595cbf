"""The items and stages of a node, multiplied by integers that make them whole."""

from bestpapers.scaling import common_scale, made_whole
from bestpapers.stages import stage_rows


def whole_end(end, scale):
    """Return an end multiplied by an integer that makes it whole; None stays None."""
    if end is None:
        return None
    return end.num * (scale // end.den)


class WholeItems:
    """Lists of integers: rows, scales and boxes of the items, and rows of the stages.

    Each item is multiplied by its scale, the least positive integer that makes its
    row and its ends whole.
    """

    def __init__(self, node):
        self.rows = []
        self.scales = []
        self.boxes = []
        for at in range(node.size):
            row = node.row_of(at)
            low, high = node.box_of(at)
            scale = common_scale(list(row) + [end for end in (low, high) if end is not None])
            self.rows.append(made_whole(row, scale))
            self.scales.append(scale)
            self.boxes.append((whole_end(low, scale), whole_end(high, scale)))
        # The scale of a stage changes neither signs nor which numbers are least.
        self.stages = [made_whole(row, common_scale(row)) for row in stage_rows(node.problem)]

    def is_fixed(self, at):
        """Tell whether an item has two equal ends."""
        low, high = self.boxes[at]
        return low is not None and low == high
