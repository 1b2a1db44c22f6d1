"""Square forms: whether they are never below 0, told by a number for each level and by what the parts have together."""

from math import lcm

from fewtell.alike import Answer
from fewtell.errors import InvalidRow, NotBelow, NotSquare, UnlikeWorlds
from fewtell.forms import check_plain, check_worlds, has_wishes
from fewtell.kinds import is_list, is_number, is_tuple_of
from fewtell.ratios import ONE, ZERO, is_less, minus, over, plus, times
from fewtell.worlds import meeting

HALF = (1, 2)


def is_square(form, trait):
    """Whether a form without wishes is square in a trait with this tuple."""
    name, ends, is_flag, _ = trait
    if ends != 1 or is_flag:
        return False
    return all([[its_name for its_name, _ in web[2]] == [name, name] for web, _ in form.terms()])


def check_square(form, trait):
    """Raises an error for a form that has wishes, or is not square in a trait."""
    check_plain(form)
    if not is_square(form, form.world.trait_named(trait)):
        raise NotSquare()


def is_square_of(world, form, trait):
    """Whether a form is of a world and square in a trait, which need not be known."""
    if form.world != world or has_wishes(form):
        return False
    return any([row[0] == trait and is_square(form, row) for row in world.traits()])


def factors_of(form):
    """The factors of a square form by the parts of its two people and the level at which they meet."""
    found = {}
    for (people, _, _), factor in form.terms():
        # One person with the entry twice meets itself.
        one, other = people[0], people[-1]
        found[(one[0], other[0], meeting(one, other))] = factor
    return found


def people_under(world, part, level):
    """The number of people below a node of a level."""
    found = 1
    for size in world.sizes(part)[level:]:
        found = found * size
    return found


def people_met(world, part, level):
    """The number of people that a given person meets at a level."""
    if level == world.depth(part):
        return 1
    return people_under(world, part, level) - people_under(world, part, level + 1)


def factor_sum(world, factors, part, level):
    """The sum of the factors for a given person and each one that it meets at a level or a deeper one."""
    found = ZERO
    for deeper in range(level, world.depth(part) + 1):
        factor = factors.get((part, part, deeper), ZERO)
        found = plus(found, times(factor, (people_met(world, part, deeper), 1)))
    return found


def level_number(world, factors, part, level):
    """The level number of a part for a level, None if it does not exist."""
    if world.sizes(part)[level - 1] < 2:
        return None
    above = factors.get((part, part, level - 1), ZERO)
    return minus(factor_sum(world, factors, part, level), times(above, (people_under(world, part, level), 1)))


def level_numbers(form, trait):
    """A list with the list of the level numbers of each part, from the level 1 on."""
    check_square(form, trait)
    world, factors = form.world, factors_of(form)
    return [[level_number(world, factors, part, level) for level in range(1, world.depth(part) + 1)]
            for part in range(len(world))]


def top_number(world, factors, part, other):
    """The number of the top for two parts, which may be the same one."""
    if part == other:
        return times((world.size(part), 1), factor_sum(world, factors, part, 0))
    between = factors.get((min(part, other), max(part, other), None), ZERO)
    return times(times(between, HALF), (world.size(part) * world.size(other), 1))


def top(form, trait):
    """The symmetric matrix of fractions that tells the number of a form if all people of a part have the same one."""
    check_square(form, trait)
    world, factors = form.world, factors_of(form)
    return [[top_number(world, factors, part, other) for other in range(len(world))] for part in range(len(world))]


def are_apart(one, other):
    """Whether two nodes are different, and none of them is above the other one."""
    many = min(len(one), len(other))
    return one[:many] != other[:many]


def first_wrong_block(world, rows):
    """The index of the first item that is no pair (node, number), or is not apart from those before; or None."""
    if not is_list(rows):
        return 0
    for index, row in enumerate(rows):
        if not is_tuple_of(row, 2) or not world.is_node(row[0]) or not is_number(row[1]):
            return index
        if not all([are_apart(node, row[0]) for node, _ in rows[:index]]):
            return index
    return None


def block_number(world, factors, row, other):
    """What two blocks, which may be the same one, give to the number of a square form."""
    node, number = row
    its_node, its_number = other
    part, level = node[0], len(node) - 1
    many = number * its_number * people_under(world, part, level)
    if node == its_node:
        return times((many, 1), factor_sum(world, factors, part, level))
    many = many * people_under(world, its_node[0], len(its_node) - 1)
    if part == its_node[0]:
        return times((2 * many, 1), factors.get((part, part, meeting(node, its_node)), ZERO))
    return times((many, 1), factors.get((min(part, its_node[0]), max(part, its_node[0]), None), ZERO))


class Blocks:
    """Nodes, each with a number for all people below it; all other people have the number 0."""

    def __init__(self, world, rows):
        index = first_wrong_block(world, rows)
        if index is not None:
            raise InvalidRow(index)
        self._world = world
        self._rows = list(rows)

    @property
    def world(self):
        """The world of the nodes."""
        return self._world

    def rows(self):
        """The list of the pairs (node, number)."""
        return list(self._rows)

    def value(self, form, trait):
        """The number of a square form for the population of the blocks."""
        check_worlds(self, form)
        check_square(form, trait)
        factors = factors_of(form)
        found = ZERO
        for index, row in enumerate(self._rows):
            for other in self._rows[:index + 1]:
                found = plus(found, block_number(self._world, factors, row, other))
        return found


class Never(Answer):
    """A form that is square in a trait is below 0 for no population."""

    def __init__(self, world, form, trait):
        super().__init__(world)
        self._form = form
        self._trait = trait

    @property
    def form(self):
        """The form."""
        return self._form

    @property
    def trait(self):
        """The name of the trait."""
        return self._trait

    @property
    def is_yes(self):
        """Whether the answer is yes."""
        return True

    def told(self):
        """The word for what is told."""
        return "never"

    def holds(self):
        """Whether the form is square in the trait, and never below 0."""
        if not is_square_of(self.world, self._form, self._trait):
            return False
        return blocks_below(self._form, self._trait) is None


class Below(Answer):
    """A form that is square in a trait is below 0 for the population of blocks."""

    def __init__(self, world, form, trait, blocks):
        super().__init__(world)
        self._form = form
        self._trait = trait
        self._blocks = blocks

    @property
    def form(self):
        """The form."""
        return self._form

    @property
    def trait(self):
        """The name of the trait."""
        return self._trait

    @property
    def blocks(self):
        """The blocks that show it."""
        return self._blocks

    @property
    def is_yes(self):
        """Whether the answer is yes."""
        return False

    def told(self):
        """The word for what is told."""
        return "below"

    def holds(self):
        """Whether the form is square in the trait, and its number for the blocks is below 0."""
        if not is_square_of(self.world, self._form, self._trait) or self._blocks.world != self.world:
            return False
        return is_less(self._blocks.value(self._form, self._trait), ZERO)


def negative_list(matrix):
    """Fractions x for which the sum of x(i) * x(j) * matrix(i, j) is below 0; None if there are none.

    The matrix is symmetric. A number above 0 on its diagonal is taken out of it together with its row and its column.
    """
    many = len(matrix)
    for at in range(many):
        if is_less(matrix[at][at], ZERO):
            return unit_list(many, at)
    for at in range(many):
        if is_less(ZERO, matrix[at][at]):
            return negative_beside(matrix, at)
    # All of the diagonal is 0, so that each other number can be had with both signs.
    for at in range(many):
        for place in range(at):
            if matrix[at][place] != ZERO:
                found = unit_list(many, at)
                found[place] = minus(ZERO, matrix[at][place])
                return found
    return None


def unit_list(many, at):
    """So many fractions: 1 at one place, and 0 at all others."""
    return [ONE if place == at else ZERO for place in range(many)]


def negative_beside(matrix, at):
    """As negative_list, for a matrix with a number above 0 at a place of its diagonal."""
    others = [place for place in range(len(matrix)) if place != at]
    shares = {place: over(matrix[at][place], matrix[at][at]) for place in others}
    # What is left if x(at) is chosen so that the sum is as little as it can be.
    found = negative_list([[minus(matrix[one][other], times(shares[one], matrix[at][other])) for other in others]
                           for one in others])
    if found is None:
        return None
    chosen = ZERO
    for place, number in zip(others, found):
        chosen = minus(chosen, times(shares[place], number))
    return [*found[:at], chosen, *found[at:]]


def blocks_below(form, trait):
    """Blocks for which a square form is below 0; None if it is never below 0."""
    world = form.world
    for part, numbers in enumerate(level_numbers(form, trait)):
        for level, number in enumerate(numbers):
            if number is not None and is_less(number, ZERO):
                above = (part, *[0 for _ in range(level)])
                return Blocks(world, [((*above, 0), 1), ((*above, 1), -1)])
    found = negative_list(top(form, trait))
    if found is None:
        return None
    shared = lcm_of([bottom for _, bottom in found])
    return Blocks(world, [((part,), number * (shared // bottom)) for part, (number, bottom) in enumerate(found)])


def lcm_of(numbers):
    """The least number above 0 that all numbers divide."""
    found = 1
    for number in numbers:
        found = lcm(found, number)
    return found


def never_below(form, trait):
    """A Never or a Below about a square form."""
    blocks = blocks_below(form, trait)
    if blocks is None:
        return Never(form.world, form, trait)
    return Below(form.world, form, trait, blocks)


def never_more(one, other, trait):
    """A Never or a Below about the second form less the first one."""
    return never_below(other - one, trait)


def check_level(form, trait):
    """Raises NotBelow for a square form whose top is not all 0, or that is below 0 for some population."""
    has_top = any([number != ZERO for row in top(form, trait) for number in row])
    if has_top or blocks_below(form, trait) is not None:
        raise NotBelow()


def greatest_ratio(one, other, trait):
    """The least fraction of at least 0 of which the second form is never less than the first one; or None."""
    if one.world != other.world:
        raise UnlikeWorlds()
    for form in (one, other):
        check_square(form, trait)
    for form in (one, other):
        check_level(form, trait)
    found = ZERO
    for numbers, its_numbers in zip(level_numbers(one, trait), level_numbers(other, trait)):
        for number, its_number in zip(numbers, its_numbers):
            if number is None or number == ZERO:
                continue
            if its_number == ZERO:
                return None
            share = over(number, its_number)
            if is_less(found, share):
                found = share
    return found
