"""What integers, numbers and small numbers are, for all files of the package."""


def is_plain_int(thing):
    """Whether a thing is an integer."""
    # A flag is an int to Python, so True would pass for 1 without this.
    return isinstance(thing, int) and not isinstance(thing, bool)


def is_number_below(limit, thing):
    """Whether a thing is a number that is less than the limit."""
    return is_plain_int(thing) and 0 <= thing < limit


def is_small(thing):
    """Whether a thing is a small number, one of those with which programs work."""
    return is_plain_int(thing) and -2 ** 31 <= thing < 2 ** 31
