"""The refusals of counts and widths, which many functions share."""

from bestpapers.errors import BadCount, WrongWidth


def check_count(what, many, least, most):
    """Raise BadCount unless many is from least to most."""
    if many < least or many > most:
        raise BadCount(what, many)


def check_width(have, need):
    """Raise WrongWidth unless have is need."""
    if have != need:
        raise WrongWidth(have, need)
