"""Programs: sums, products and tests over people, as tuples."""

from fewtell.errors import InvalidProgram, TooLarge, TooMany, TooWide
from fewtell.kinds import is_between, is_number, is_tuple_of, raised
from fewtell.ratios import ONE, is_ratio, times
from fewtell.worlds import is_name

MOST_PLACES = 4
MOST_DEGREE = 8
MOST_PRODUCTS = 60
MOST_NESTED = 10
GREATEST_NUM = 10 ** 9 - 1
DEEPEST_LEVEL = 3
LEAST_PARTS = 2
MOST_PARTS = 8
MOST_COUNT = 4


def are_variables(value, many, scope):
    """Whether any value is a tuple of so many variables that stand for people here."""
    return is_tuple_of(value, many) and all([variable in scope for variable in value])


def is_num(world, value, waves, scope):
    """Whether a tuple that begins with num is of its form."""
    return is_ratio(value[1:]) and abs(value[1]) <= GREATEST_NUM and value[2] <= GREATEST_NUM


def is_trait(world, value, waves, scope):
    """Whether a tuple that begins with trait is of its form, with a known name and known variables."""
    if len(value) != 3:
        return False
    for name, ends, _, _ in world.traits():
        if name == value[1]:
            return are_variables(value[2], ends, scope)
    return False


def is_same(world, value, waves, scope):
    """Whether a tuple that begins with same is of its form, with known variables."""
    return are_variables(value[1:], 2, scope)


def is_near(world, value, waves, scope):
    """Whether a tuple that begins with near is of its form, with known variables."""
    return len(value) == 4 and is_between(value[1], 0, DEEPEST_LEVEL) and are_variables(value[2:], 2, scope)


def is_part(world, value, waves, scope):
    """Whether a tuple that begins with part is of its form, with a known name and a known variable."""
    return len(value) == 3 and value[1] in [name for name, _ in world.parts()] and value[2] in scope


def is_wave(world, value, waves, scope):
    """Whether a tuple that begins with wave is of its form, with a known name and a known variable."""
    return len(value) == 3 and value[1] in waves and value[2] in scope


def is_sum(world, value, waves, scope):
    """Whether a tuple that begins with sum is of its form, whatever its part is."""
    return len(value) == 3 and is_name(value[1]) and value[1] not in scope


def is_joined(world, value, waves, scope):
    """Whether a tuple that begins with plus or times is of its form, whatever its parts are."""
    return LEAST_PARTS <= len(value) - 1 <= MOST_PARTS


def is_power(world, value, waves, scope):
    """Whether a tuple that begins with power is of its form, whatever its part is."""
    return len(value) == 3 and is_between(value[2], 0, MOST_COUNT)


FORMS = {
    "num": is_num, "trait": is_trait, "same": is_same, "near": is_near, "part": is_part, "wave": is_wave,
    "sum": is_sum, "plus": is_joined, "times": is_joined, "power": is_power,
}


def has_form(world, value, waves, scope):
    """Whether any value is a program here, whatever its parts are; scope is a tuple of the known variables."""
    if not isinstance(value, tuple) or not value or not isinstance(value[0], str) or value[0] not in FORMS:
        return False
    has_its_form = FORMS[value[0]]
    return has_its_form(world, value, waves, scope)


def parts_of(program):
    """The tuple of the parts of a program."""
    if program[0] == "sum":
        return program[2:]
    if program[0] == "power":
        return program[1:2]
    if program[0] in ("plus", "times"):
        return program[1:]
    return ()


def check_part(world, value, waves, scope, path):
    """Raises InvalidProgram for the part with a path, if it is wrong, or for the first wrong one inside of it."""
    if len(path) >= MOST_NESTED or not has_form(world, value, waves, scope):
        raise InvalidProgram(path)
    if value[0] == "sum":
        scope = (*scope, value[1])
    for number, part in enumerate(parts_of(value)):
        check_part(world, part, waves, scope, (*path, number))


def check_program(world, value, *, waves=()):
    """Raises the error of any value that is no program of a world with these waves, or is too great."""
    check_part(world, value, waves, (), ())
    if width_of(value) > MOST_PLACES:
        raise TooWide(MOST_PLACES)
    if degree_of(value) > MOST_DEGREE:
        raise TooLarge(MOST_DEGREE)
    if products_of(value) > MOST_PRODUCTS:
        raise TooMany(MOST_PRODUCTS)


def added_measure(program, of_trait, of_sum):
    """A measure that products add up, with what a trait has and what a sum has beside its part."""
    kind = program[0]
    if kind == "trait":
        return of_trait
    measures = [added_measure(part, of_trait, of_sum) for part in parts_of(program)]
    if kind == "sum":
        return of_sum + measures[0]
    if kind == "plus":
        return max(measures)
    if kind == "power":
        return program[2] * measures[0]
    return sum(measures)


def width_of(program):
    """The most people that a product of a program speaks of."""
    return added_measure(program, 0, 1)


def degree_of(program):
    """The most entries that a product of a program has."""
    return added_measure(program, 1, 0)


def products_of(program):
    """The number of products of a program that is multiplied out."""
    kind = program[0]
    measures = [products_of(part) for part in parts_of(program)]
    if kind == "plus":
        return sum(measures)
    if kind == "power":
        return raised(measures[0], program[2])
    found = 1
    for measure in measures:
        found = found * measure
    return found


def atom_of(program):
    """A trait or a test as a tuple (kind, label, variables)."""
    kind = program[0]
    if kind == "trait":
        return program
    if kind == "same":
        return (kind, "", program[1:])
    return (kind, program[1], program[2:])


def bound(atom, variable, number):
    """An atom in which a variable has become the one with a number."""
    kind, label, variables = atom
    return (kind, label, tuple([number if name == variable else name for name in variables]))


def shifted(atom, many):
    """An atom in which the numbers of all numbered variables are greater by so many."""
    kind, label, variables = atom
    return (kind, label, tuple([name + many if is_number(name) else name for name in variables]))


def joined(one, other):
    """The product of two products; the variables of the second one are numbered behind those of the first one."""
    factor, many, atoms = one
    its_factor, its_many, its_atoms = other
    found = list(atoms)
    for atom in its_atoms:
        moved = shifted(atom, many)
        # A test is 0 or 1, so that its powers are the test itself.
        if moved[0] == "trait" or moved not in found:
            found.append(moved)
    return (times(factor, its_factor), many + its_many, tuple(found))


def all_joined(factors):
    """The products of a product of programs; of each program its products are given."""
    found = [(ONE, 0, ())]
    for products in factors:
        found = [joined(one, other) for one in found for other in products]
    return found


def summed(product, variable):
    """The sum over all people for whom a variable of a product may stand."""
    factor, many, atoms = product
    return (factor, many + 1, tuple([bound(atom, variable, many) for atom in atoms]))


def power_products(part, count):
    """The products of a power."""
    # The part of a power with the count 0 may have any number of products, and is not looked at.
    if count == 0:
        return all_joined([])
    products = multiplied_out(part)
    return all_joined([products for _ in range(count)])


def multiplied_out(program):
    """The products whose sum a program is: tuples (factor, number of variables, atoms).

    The variables of the sums are numbered from 0 on; an atom is a trait or a test, a tuple (kind, label, variables).
    """
    kind = program[0]
    if kind == "num":
        return [(program[1:], 0, ())]
    if kind == "sum":
        return [summed(product, program[1]) for product in multiplied_out(program[2])]
    if kind == "plus":
        return [product for part in program[1:] for product in multiplied_out(part)]
    if kind == "times":
        return all_joined([multiplied_out(part) for part in program[1:]])
    if kind == "power":
        return power_products(program[1], program[2])
    return [(ONE, 0, (atom_of(program),))]
