"""Ways to ask functions that several tests share."""


def listed(value):
    """The value with a list for each tuple in it."""
    if isinstance(value, (list, tuple)):
        return [listed(part) for part in value]
    return value


def half_listed(value, level=0):
    """The value with lists at every other level."""
    if isinstance(value, (list, tuple)):
        parts = [half_listed(part, level + 1) for part in value]
        return parts if level % 2 else tuple(parts)
    return value


def holds_list(value):
    if isinstance(value, list):
        return True
    return isinstance(value, tuple) and any(holds_list(part) for part in value)


def outcome(function, *args, **more):
    """What the call returned, told with its kinds, or what it raised."""
    try:
        return ("returned", repr(function(*args, **more)))
    except (LookupError, ValueError) as error:
        return ("raised", error.__class__.__name__, repr(vars(error)))
