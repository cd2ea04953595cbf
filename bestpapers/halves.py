"""Halves of boxes that may become crossed, where a paper is read in another problem."""


def is_crossed(box):
    """Tell whether the low end of a box is above its high end."""
    low, high = box
    return low is not None and high is not None and low > high


def half_boxes(boxes, variable, k):
    """Return the boxes of the low half and those of the high half at k of a whole variable."""
    low, high = boxes[variable]
    below = (low, k if k < high else high)
    above = (k + 1 if k + 1 > low else low, high)
    return [boxes[:variable] + (box,) + boxes[variable + 1:] for box in (below, above)]
