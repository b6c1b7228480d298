"""What integers, numbers, small numbers and lots are, for all files of the package."""


def is_plain_int(thing):
    """Whether a thing is an integer."""
    # A flag is an int to Python, so True would pass for 1 without this.
    return isinstance(thing, int) and not isinstance(thing, bool)


def is_number(thing):
    """Whether a thing is a number."""
    return is_plain_int(thing) and thing >= 0


def is_number_below(limit, thing):
    """Whether a thing is a number that is less than the limit."""
    return is_plain_int(thing) and 0 <= thing < limit


def is_small(thing):
    """Whether a thing is a small number, one of those with which programs work."""
    return is_plain_int(thing) and -2 ** 31 <= thing < 2 ** 31


def is_ascending(things):
    """Whether each of the things, all of one kind, is greater than the one ahead."""
    return all([low < high for low, high in zip(things, things[1:])])


def is_lot_below(limit, thing):
    """Whether a thing is a lot of numbers that are less than the limit."""
    if not isinstance(thing, tuple) or not all([is_number_below(limit, part) for part in thing]):
        return False
    return is_ascending(thing)
