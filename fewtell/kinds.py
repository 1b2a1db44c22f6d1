"""Which kind a plain value is of, words for numbers, powers of numbers, and copies of plain values."""

DIGITS = "0123456789"
MOST_DIGITS = 31


def is_number(value):
    """Whether any value is a number; a boolean is none."""
    return isinstance(value, int) and not isinstance(value, bool)


def is_between(value, least, most):
    """Whether any value is a number from the least to the most one."""
    return is_number(value) and least <= value <= most


def is_tuple_of(value, many):
    """Whether any value is a tuple of so many items."""
    return isinstance(value, tuple) and len(value) == many


def is_list(value):
    """Whether any value may be passed where a list is documented."""
    return isinstance(value, (list, tuple))


def is_numeral(word):
    """Whether a string is a number that is not below 0, without a leading zero."""
    if not 1 <= len(word) <= MOST_DIGITS or not all([digit in DIGITS for digit in word]):
        return False
    return word == "0" or word[0] != "0"


def raised(number, count):
    """The product of so many times a number."""
    found = 1
    # Squares make few products out of a great count.
    while count > 0:
        if count & 1 == 1:
            found = found * number
        count = count >> 1
        if count > 0:
            number = number * number
    return found


def copied(value):
    """Any value, with new lists in the place of all lists in it, also of those within tuples."""
    if isinstance(value, list):
        return [copied(item) for item in value]
    if isinstance(value, tuple):
        return tuple([copied(item) for item in value])
    return value
