"""Private: what kinds of values things are."""


def is_number(thing):
    """Whether thing is an int that is not a bool."""
    return isinstance(thing, int) and not isinstance(thing, bool)


def is_below(thing, many):
    """Whether thing is a number from 0, below many."""
    return is_number(thing) and 0 <= thing < many


def are_below(thing, many, length):
    """Whether thing is a tuple of so many numbers from 0, below many."""
    return (isinstance(thing, tuple) and len(thing) == length
            and all([is_below(part, many) for part in thing]))


def frozen(value):
    """The value with a tuple for each list in it, at any depth."""
    if isinstance(value, (list, tuple)):
        return tuple([frozen(part) for part in value])
    return value
