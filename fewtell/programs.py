"""Programs: sums, products and tests over people, as tuples."""

from fewtell.errors import InvalidProgram, TooLarge, TooMany, TooWide
from fewtell.kinds import is_between, is_tuple_of, raised
from fewtell.ratios import is_ratio
from fewtell.worlds import is_name

MOST_PLACES = 4
MOST_DEGREE = 8
MOST_PRODUCTS = 60
MOST_NESTED = 10
GREATEST_NUM = 10 ** 9 - 1
DEEPEST_LEVEL = 3
LEAST_PARTS = 2
MOST_PARTS = 8
MOST_COUNT = 4


def are_variables(value, many, scope):
    """Whether any value is a tuple of so many variables that stand for people here."""
    return is_tuple_of(value, many) and all([variable in scope for variable in value])


def is_num(world, value, waves, scope):
    """Whether a tuple that begins with num is of its form."""
    if len(value) != 3 or not is_ratio(value[1:]):
        return False
    return is_between(value[1], -GREATEST_NUM, GREATEST_NUM) and value[2] <= GREATEST_NUM


def is_trait(world, value, waves, scope):
    """Whether a tuple that begins with trait is of its form, with a known name and known variables."""
    if len(value) != 3:
        return False
    for name, ends, _, _ in world.traits():
        if name == value[1]:
            return are_variables(value[2], ends, scope)
    return False


def is_same(world, value, waves, scope):
    """Whether a tuple that begins with same is of its form, with known variables."""
    return are_variables(value[1:], 2, scope)


def is_near(world, value, waves, scope):
    """Whether a tuple that begins with near is of its form, with known variables."""
    return len(value) == 4 and is_between(value[1], 0, DEEPEST_LEVEL) and are_variables(value[2:], 2, scope)


def is_part(world, value, waves, scope):
    """Whether a tuple that begins with part is of its form, with a known name and a known variable."""
    return len(value) == 3 and value[1] in [name for name, _ in world.parts()] and value[2] in scope


def is_wave(world, value, waves, scope):
    """Whether a tuple that begins with wave is of its form, with a known name and a known variable."""
    return len(value) == 3 and value[1] in waves and value[2] in scope


def is_sum(world, value, waves, scope):
    """Whether a tuple that begins with sum is of its form, whatever its part is."""
    return len(value) == 3 and is_name(value[1]) and value[1] not in scope


def is_joined(world, value, waves, scope):
    """Whether a tuple that begins with plus or times is of its form, whatever its parts are."""
    return LEAST_PARTS <= len(value) - 1 <= MOST_PARTS


def is_power(world, value, waves, scope):
    """Whether a tuple that begins with power is of its form, whatever its part is."""
    return len(value) == 3 and is_between(value[2], 0, MOST_COUNT)


FORMS = {
    "num": is_num, "trait": is_trait, "same": is_same, "near": is_near, "part": is_part, "wave": is_wave,
    "sum": is_sum, "plus": is_joined, "times": is_joined, "power": is_power,
}


def has_form(world, value, waves, scope):
    """Whether any value is a program here, whatever its parts are; scope is a tuple of the known variables."""
    if not isinstance(value, tuple) or not value or not isinstance(value[0], str) or value[0] not in FORMS:
        return False
    has_its_form = FORMS[value[0]]
    return has_its_form(world, value, waves, scope)


def parts_of(program):
    """The tuple of the parts of a program."""
    if program[0] == "sum":
        return program[2:]
    if program[0] == "power":
        return program[1:2]
    if program[0] in ("plus", "times"):
        return program[1:]
    return ()


def check_part(world, value, waves, scope, path):
    """Raises InvalidProgram for the part with a path, if it is wrong, or for the first wrong one inside of it."""
    if len(path) >= MOST_NESTED or not has_form(world, value, waves, scope):
        raise InvalidProgram(path)
    if value[0] == "sum":
        scope = (*scope, value[1])
    for number, part in enumerate(parts_of(value)):
        check_part(world, part, waves, scope, (*path, number))


def check_program(world, value, *, waves=()):
    """Raises the error of any value that is no program of a world with these waves, or is too great."""
    check_part(world, value, waves, (), ())
    if width_of(value) > MOST_PLACES:
        raise TooWide(MOST_PLACES)
    if degree_of(value) > MOST_DEGREE:
        raise TooLarge(MOST_DEGREE)
    if products_of(value) > MOST_PRODUCTS:
        raise TooMany(MOST_PRODUCTS)


def added_measure(program, of_trait, of_sum):
    """A measure that products add up, with what a trait has and what a sum has beside its part."""
    kind = program[0]
    if kind == "trait":
        return of_trait
    measures = [added_measure(part, of_trait, of_sum) for part in parts_of(program)]
    if kind == "sum":
        return of_sum + measures[0]
    if kind == "plus":
        return max(measures)
    if kind == "power":
        return program[2] * measures[0]
    return sum(measures)


def width_of(program):
    """The most people that a product of a program speaks of."""
    return added_measure(program, 0, 1)


def degree_of(program):
    """The most entries that a product of a program has."""
    return added_measure(program, 1, 0)


def products_of(program):
    """The number of products of a program that is multiplied out."""
    kind = program[0]
    measures = [products_of(part) for part in parts_of(program)]
    if kind == "plus":
        return sum(measures)
    if kind == "power":
        return raised(measures[0], program[2])
    found = 1
    for measure in measures:
        found = found * measure
    return found
