"""Fractions: tuples (top, bottom) in lowest terms with a bottom above 0."""

from math import gcd

from fewtell.kinds import is_number, is_tuple_of

ZERO = (0, 1)
ONE = (1, 1)
DIGITS_AT_ONCE = 320
SPLIT = 10 ** 64 * 10 ** 64 * 10 ** 64 * 10 ** 64 * 10 ** 64


def ratio(top, bottom=1):
    """The fraction of two numbers, the second one not 0."""
    shared = gcd(top, bottom)
    # A bottom below 0 takes its sign along, so that the new bottom is above 0.
    if bottom < 0:
        shared = -shared
    return (top // shared, bottom // shared)


def plus(one, other):
    """The sum of two fractions."""
    return ratio(one[0] * other[1] + other[0] * one[1], one[1] * other[1])


def minus(one, other):
    """The first fraction less the second one."""
    return ratio(one[0] * other[1] - other[0] * one[1], one[1] * other[1])


def times(one, other):
    """The product of two fractions."""
    return ratio(one[0] * other[0], one[1] * other[1])


def over(one, other):
    """The first fraction divided by the second one, which is not 0."""
    return ratio(one[0] * other[1], one[1] * other[0])


def is_less(one, other):
    """Whether the first fraction is less than the second one."""
    return one[0] * other[1] < other[0] * one[1]


def is_ratio(value):
    """Whether any value is a fraction."""
    if not is_tuple_of(value, 2) or not is_number(value[0]) or not is_number(value[1]):
        return False
    return value[1] > 0 and gcd(value[0], value[1]) == 1


def number_text(number):
    """The digits of a number, however many there are."""
    if number < 0:
        return f"-{number_text(-number)}"
    words = []
    # Python refuses to write more than 4300 digits at once.
    while number >= SPLIT:
        number, rest = divmod(number, SPLIT)
        words.append(str(rest).zfill(DIGITS_AT_ONCE))
    words.append(str(number))
    return "".join(words[::-1])


def ratio_text(value):
    """The text of a fraction: the bottom stands there only if it is not 1."""
    if value[1] == 1:
        return number_text(value[0])
    return f"{number_text(value[0])}/{number_text(value[1])}"
