"""Drawings: which nodes are in which wave, and what is seen of a population."""

from itertools import combinations
from math import comb, gcd

from fewtell.errors import InvalidDrawing, InvalidPerson, TooMany, UnknownName
from fewtell.forms import check_worlds, form_number
from fewtell.guesses import check_form, is_seen
from fewtell.kinds import is_list, is_number, raised

MOST_DRAWINGS = 300


def are_nodes(world, value):
    """Whether any value is a list of a few different nodes of a world below the roots."""
    if not is_list(value) or len(value) > Drawing.MOST:
        return False
    if not all([world.is_node(node) and len(node) > 1 for node in value]):
        return False
    return len({node for node in value}) == len(value)


def drawn_counts(nodes):
    """For each node above some nodes, how many of its children are among these."""
    found = {}
    for node in nodes:
        found[node[:-1]] = found.get(node[:-1], 0) + 1
    return found


def places_of(world, nodes):
    """The roots of a world and some nodes, as far as they are no people."""
    roots = [(part,) for part in range(len(world))]
    return [node for node in [*roots, *nodes] if len(node) <= world.depth(node[0])]


def people_among(world, rows):
    """The ascending list of the people in some lists of nodes."""
    return sorted({node for nodes in rows for node in nodes if world.is_person(node)})


def supply_at(world, node, source):
    """The number of the children of a node that are in a source, the list of its nodes, or None for all nodes."""
    if source is None:
        return world.sizes(node[0])[len(node) - 1]
    return drawn_counts(source).get(node, 0)


def can_be_drawn(world, hows, nodes, source):
    """Whether nodes of a world can be drawn by a wave out of a source."""
    if source is not None and not all([node in source for node in nodes]):
        return False
    if not all([len(node) == 2 or node[:-1] in nodes for node in nodes]):
        return False
    counts = drawn_counts(nodes)
    for node in places_of(world, nodes):
        how = hows[node[0]][len(node) - 1]
        wanted = supply_at(world, node, source) if how is None else how
        # By a fraction, any of the children can be drawn.
        if is_number(wanted) and counts.get(node, 0) != wanted:
            return False
    return True


def checked_rows(plan, rows):
    """The ascending lists of the nodes of the waves by their names."""
    waves = plan.waves()
    if not is_list(rows) or len(rows) != len(waves):
        raise InvalidDrawing(len(waves))
    found = {}
    for index, (name, source, hows) in enumerate(waves):
        nodes = rows[index]
        if not are_nodes(plan.world, nodes) or not can_be_drawn(plan.world, hows, nodes, found.get(source)):
            raise InvalidDrawing(index)
        found[name] = sorted(nodes)
    return found


def powers_of_lot(how, supply, many):
    """Pairs (number, exponent) whose product is the chance that just so many children of a node are drawn."""
    if how is None:
        return []
    if is_number(how):
        return [(comb(supply, many), -1)]
    over, under = how
    return [(over, many), (under - over, supply - many), (under, -supply)]


def apart(powers):
    """Pairs (number, exponent) of numbers without common divisors, with the same product."""
    found = []
    waiting = list(powers)
    while waiting:
        number, exponent = waiting.pop()
        shared = [row for row in found if gcd(row[0], number) > 1]
        if not shared:
            found.append((number, exponent))
            continue
        known, its_exponent = shared[0]
        both = gcd(known, number)
        found = [row for row in found if row[0] != known]
        waiting.extend([(known // both, its_exponent), (number // both, exponent), (both, exponent + its_exponent)])
    return found


def product_of_powers(powers):
    """The product of pairs (number, exponent), as a fraction."""
    over = 1
    under = 1
    # The numbers may have so great powers that a common divisor of these would be hard to find.
    for number, exponent in apart(powers):
        if exponent > 0:
            over = over * raised(number, exponent)
        else:
            under = under * raised(number, -exponent)
    return (over, under)


class Drawing:
    """Which nodes are in which wave of a plan; it never changes."""

    MOST = 24

    def __init__(self, plan, rows):
        self._plan = plan
        self._rows = checked_rows(plan, rows)

    @property
    def plan(self):
        """The plan that is drawn by."""
        return self._plan

    def nodes(self, wave):
        """The ascending list of the nodes of a wave, without the roots of the parts."""
        if wave not in self._plan.names():
            raise UnknownName(wave)
        return list(self._rows[wave])

    def people(self, wave):
        """The ascending list of the people in a wave."""
        return people_among(self._plan.world, [self.nodes(wave)])

    def has(self, wave, person):
        """Whether a person is in a wave."""
        nodes = self.nodes(wave)
        if not self._plan.world.is_person(person):
            raise InvalidPerson(person)
        return person in nodes

    def sees(self, trait, people):
        """Whether an entry is seen."""
        self._plan.world.entry(trait, people)
        waves = [[name for name, nodes in self._rows.items() if person in nodes] for person in people]
        return is_seen(self._plan, trait, waves)

    def chance(self):
        """The chance of the drawing."""
        powers = []
        world = self._plan.world
        for name, source, hows in self._plan.waves():
            counts = drawn_counts(self._rows[name])
            for node in places_of(world, self._rows[name]):
                how = hows[node[0]][len(node) - 1]
                supply = supply_at(world, node, self._rows.get(source))
                powers.extend(powers_of_lot(how, supply, counts.get(node, 0)))
        return product_of_powers(powers)

    def value(self, form, population):
        """The number of a form for the drawing and a population."""
        check_worlds(self._plan, population)
        check_form(self._plan, form)
        return form_number(form, population, [(name, self.people(name)) for name in self._plan.names()])

    def __eq__(self, other):
        return isinstance(other, Drawing) and self._plan == other._plan and self._rows == other._rows

    def __repr__(self):
        return f"Drawing({len(people_among(self._plan.world, list(self._rows.values())))} people)"


def lot_count(how, supply):
    """How many lots of children of a node can be drawn; raises TooMany if one of them is too great for a drawing."""
    if how is None or is_number(how):
        many = supply if how is None else how
        if many > Drawing.MOST:
            raise TooMany(MOST_DRAWINGS)
        return comb(supply, many)
    return raised(2, min(supply, Drawing.MOST))


def lots_at(world, how, node, source):
    """All lots of children of a node that can be drawn; raises TooMany if there are too many."""
    supply = supply_at(world, node, source)
    if lot_count(how, supply) > MOST_DRAWINGS:
        raise TooMany(MOST_DRAWINGS)
    if how == 0:
        return [()]
    if source is None:
        children = [(*node, index) for index in range(supply)]
    else:
        children = [child for child in source if child[:-1] == node]
    if how is None:
        return [tuple(children)]
    if is_number(how):
        return lots_of(children, how)
    return [lot for many in range(supply + 1) for lot in lots_of(children, many)]


def lots_of(children, many):
    """All lots of so many children."""
    return list(combinations(children, many))


def check_many(rows):
    """Raises TooMany for too many lists of nodes, or for one with too many nodes."""
    if len(rows) > MOST_DRAWINGS or any([len(nodes) > Drawing.MOST for nodes in rows]):
        raise TooMany(MOST_DRAWINGS)


def with_level(world, part, level, how, nodes, source):
    """All tuples of nodes that can come out of such a tuple if the children at a level of a part are drawn."""
    found = [nodes]
    for node in places_of(world, nodes):
        if node[0] == part and len(node) == level + 1:
            lots = lots_at(world, how, node, source)
            found = [(*row, *lot) for row in found for lot in lots]
            check_many(found)
    return found


def all_lots(world, hows, source):
    """All ascending tuples of nodes that a wave can draw out of a source."""
    found = [()]
    for part, row in enumerate(hows):
        for level, how in enumerate(row):
            # Each lot can be drawn on, so that there are never more of them than drawings.
            found = [more for nodes in found for more in with_level(world, part, level, how, nodes, source)]
            check_many(found)
    return [tuple(sorted(nodes)) for nodes in found]


def all_rows(plan):
    """The rows of all drawings of a plan, ascending: tuples with an ascending tuple of nodes for each wave."""
    names = plan.names()
    found = [()]
    for _, source, hows in plan.waves():
        longer = []
        for rows in found:
            nodes = dict(zip(names, rows)).get(source)
            longer.extend([(*rows, lot) for lot in all_lots(plan.world, hows, nodes)])
            if len(longer) > MOST_DRAWINGS:
                raise TooMany(MOST_DRAWINGS)
        found = longer
    return sorted(found)


def all_drawings(plan):
    """Generates all drawings of a plan, in ascending order of the lists of the nodes of their waves."""
    for rows in all_rows(plan):
        yield Drawing(plan, rows)
