"""Plans: how waves of people are drawn, and what is seen of them."""

from math import perm

from fewtell.errors import InvalidSight, InvalidWave, InvalidWeb, UnknownName
from fewtell.kinds import is_list, is_number, is_tuple_of, raised
from fewtell.ratios import ONE, ZERO, is_ratio, ratio, times
from fewtell.webs import child_counts, is_web_for
from fewtell.worlds import is_name

MOST_WAVES = 3
MOST_SIGHTS = 8
ENDS = ("all", "first", "any")


def is_how(value, supply):
    """Whether any value says how a level is drawn; supply is None if it is not fixed."""
    if value is None:
        return True
    if is_number(value):
        return supply is not None and 0 <= value <= supply
    return is_ratio(value) and 0 < value[0] < value[1]


def are_hows(value, supplies):
    """Whether any value says how all levels of all parts are drawn; supplies has a tuple for each part."""
    if not is_tuple_of(value, len(supplies)):
        return False
    for row, levels in zip(value, supplies):
        if not is_tuple_of(row, len(levels)) or not all([is_how(how, supply) for how, supply in zip(row, levels)]):
            return False
    return True


def left_by(hows, supplies):
    """How many children of a node are in a wave, for each level of each part; None where that is not fixed."""
    return tuple([tuple([left_at(how, supply) for how, supply in zip(row, levels)])
                  for row, levels in zip(hows, supplies)])


def left_at(how, supply):
    """How many children of a node are in a wave, None if that is not fixed."""
    if how is None:
        return supply
    if is_number(how):
        return how
    return None


def supplies_of(world, waves):
    """The supplies of the waves by their names; raises InvalidWave for the first row that is no wave."""
    if not is_list(waves) or not waves:
        raise InvalidWave(0)
    supplies = {}
    left = {None: tuple([world.sizes(part) for part in range(len(world))])}
    for index, row in enumerate(waves):
        if index == MOST_WAVES or not is_tuple_of(row, 3):
            raise InvalidWave(index)
        name, source, hows = row
        if not is_name(name) or name in supplies or not is_source(source, supplies):
            raise InvalidWave(index)
        if not are_hows(hows, left[source]):
            raise InvalidWave(index)
        supplies[name] = left[source]
        left[name] = left_by(hows, left[source])
    return supplies


def is_source(value, supplies):
    """Whether any value is a source: None, or the name of an earlier wave."""
    return value is None or value in list(supplies)


def is_sight(world, waves, row):
    """Whether any value is a tuple (trait, wave, ends); waves is the list of the names of the waves."""
    if not is_tuple_of(row, 3):
        return False
    trait, wave, ends = row
    for name, _, _, is_even in world.traits():
        if name == trait:
            return wave in waves and ends in ENDS and not (is_even and ends == "first")
    return False


def check_sights(world, waves, sights):
    """Raises InvalidSight for the first row that is no sight, or is equal to a row before."""
    if not is_list(sights):
        raise InvalidSight(0)
    for index, row in enumerate(sights):
        if index == MOST_SIGHTS or not is_sight(world, waves, row) or row in sights[:index]:
            raise InvalidSight(index)


def chance_of_children(how, supply, many):
    """The chance that so many children of a node, which are in the source, are in the wave."""
    if how is None:
        return ONE
    if not is_number(how):
        return (raised(how[0], many), raised(how[1], many))
    if many > how:
        return ZERO
    return ratio(perm(how, many), perm(supply, many))


class Plan:
    """Waves, which are drawn level by level, and sights; it never changes."""

    def __init__(self, world, waves, sights=()):
        supplies = supplies_of(world, waves)
        check_sights(world, list(supplies), sights)
        self._world = world
        self._waves = list(waves)
        self._sights = list(sights)
        self._supplies = supplies

    @property
    def world(self):
        """The world in which is drawn."""
        return self._world

    def waves(self):
        """The list of the tuples (name, source, hows)."""
        return list(self._waves)

    def sights(self):
        """The list of the tuples (trait, wave, ends)."""
        return list(self._sights)

    def names(self):
        """The list of the names of the waves."""
        return [name for name, _, _ in self._waves]

    def roots(self, wave):
        """The list of the names of the waves that a wave comes out of, beginning with its source."""
        if wave not in self.names():
            raise UnknownName(wave)
        sources = {name: source for name, source, _ in self._waves}
        found = []
        source = sources[wave]
        while source is not None:
            found.append(source)
            source = sources[source]
        return found

    def all_wished(self, wishes):
        """The list of the names of the waves that are wished with known names, the roots of these included."""
        found = []
        for name in wishes:
            for wave in [name, *self.roots(name)]:
                if wave not in found:
                    found.append(wave)
        return found

    def least(self, wishes):
        """The ascending tuple of the names in a tuple of names, without the roots of others."""
        known = self.names()
        left_out = [root for name in wishes if name in known for root in self.roots(name)]
        return tuple(sorted({name for name in wishes if name not in left_out}))

    def chance(self, web):
        """The chance that each person of a web is in all waves of its wishes."""
        if not is_web_for(self._world, web, self.names()):
            raise InvalidWeb(web)
        return self.chance_among(web, self.names())

    def chance_among(self, web, names):
        """The chance of a web as far as the waves with some names are concerned, given the other ones."""
        found = ONE
        for name, _, hows in self._waves:
            if name in names:
                people = [person for person, wishes in zip(web[0], web[1]) if name in self.all_wished(wishes)]
                found = times(found, self.chance_of_people(name, hows, people))
        return found

    def chance_of_people(self, name, hows, people):
        """The chance that people, who are in the source of a wave, are in the wave."""
        found = ONE
        for node, many in child_counts(people).items():
            part, level = node[0], len(node) - 1
            found = times(found, chance_of_children(hows[part][level], self._supplies[name][part][level], many))
        return found

    def __len__(self):
        return len(self._waves)

    def __eq__(self, other):
        if not isinstance(other, Plan):
            return False
        return self._world == other._world and self._waves == other._waves and self._sights == other._sights

    def __repr__(self):
        return f"Plan({len(self._waves)} waves)"
