"""Which kind a plain value is of, powers of numbers, and copies of plain values."""


def is_number(value):
    """Whether any value is a number; a boolean is none."""
    return isinstance(value, int) and not isinstance(value, bool)


def is_between(value, least, most):
    """Whether any value is a number from the least to the most one."""
    return is_number(value) and least <= value <= most


def is_tuple_of(value, many):
    """Whether any value is a tuple of so many items."""
    return isinstance(value, tuple) and len(value) == many


def is_list(value):
    """Whether any value may be passed where a list is documented."""
    return isinstance(value, (list, tuple))


def raised(number, count):
    """The product of so many times a number."""
    found = 1
    for _ in range(count):
        found = found * number
    return found


def copied(value):
    """Any value, with new lists in the place of all lists in it, also of those within tuples."""
    if isinstance(value, list):
        return [copied(item) for item in value]
    if isinstance(value, tuple):
        return tuple([copied(item) for item in value])
    return value
