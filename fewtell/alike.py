"""Whether two programs have the same number for all populations, with what shows it."""

from fewtell.forms import check_plain, form_of, has_wishes
from fewtell.kinds import raised
from fewtell.populations import Population
from fewtell.ratios import ZERO, plus, times
from fewtell.seats import Guests
from fewtell.webs import counted_entries, web_entries

GREATEST_CHOICE = 8


class Answer:
    """An answer about a world that can be checked."""

    def __init__(self, world):
        self._world = world

    @property
    def world(self):
        """The world that the answer is about."""
        return self._world

    @property
    def is_yes(self):
        """Whether the answer is yes."""
        return False

    def told(self):
        """The word for what is told."""
        return "unknown"

    def holds(self):
        """Whether what is told is so."""
        return False

    def __bool__(self):
        return bool(self.is_yes)

    def __repr__(self):
        return f"Answer({self.told()})"


class Alike(Answer):
    """Two forms have the same number for all populations."""

    def __init__(self, world, one, other):
        super().__init__(world)
        self._one = one
        self._other = other

    @property
    def one(self):
        """The first form."""
        return self._one

    @property
    def other(self):
        """The second form."""
        return self._other

    @property
    def is_yes(self):
        """Whether the answer is yes."""
        return True

    def told(self):
        """The word for what is told."""
        return "alike"

    def holds(self):
        """Whether both are equal forms of the world, without wishes."""
        return are_plain(self.world, self._one, self._other) and self._one == self._other


class Apart(Answer):
    """Two forms have different numbers for a population."""

    def __init__(self, world, one, other, population):
        super().__init__(world)
        self._one = one
        self._other = other
        self._population = population

    @property
    def one(self):
        """The first form."""
        return self._one

    @property
    def other(self):
        """The second form."""
        return self._other

    @property
    def population(self):
        """The population that shows it."""
        return self._population

    @property
    def is_yes(self):
        """Whether the answer is yes."""
        return False

    def told(self):
        """The word for what is told."""
        return "apart"

    def holds(self):
        """Whether both are forms of the world, without wishes, with different numbers for the population."""
        if not are_plain(self.world, self._one, self._other) or self._population.world != self.world:
            return False
        return self._one.value(self._population) != self._other.value(self._population)


def are_plain(world, one, other):
    """Whether two forms are of a world and have no wishes."""
    return all([form.world == world and not has_wishes(form) for form in (one, other)])


def compare(world, one, other):
    """An Alike or an Apart about the forms of two programs without waves."""
    form = form_of(world, one)
    its_form = form_of(world, other)
    population = parting(form - its_form)
    if population is None:
        return Alike(world, form, its_form)
    return Apart(world, form, its_form, population)


def parting(form):
    """A population for which a form without wishes is not 0, None if there is none with numbers from 1 to 8.

    Only the entries of one web of the form, one with the fewest different entries, are not 0 in it.
    """
    check_plain(form)
    webs = [web for web, _ in form.terms()]
    if not webs:
        return None
    people, _, pairs = min(webs, key=many_entries)
    entries = [form.world.entry(name, tuple([people[at] for at in positions]))
               for name, positions in web_entries((people, (), pairs))]
    numbers = nonzero_numbers(form_at(form, entries), len(entries))
    if numbers is None:
        return None
    return Population(form.world, list(zip(entries, numbers)))


def many_entries(web):
    """The number of different entries of a web."""
    return len(web_entries(web))


def form_at(form, entries):
    """What a form is if only these entries are not 0: a factor for each product of powers of their numbers.

    The products are the tuples of the exponents. No web of the form has fewer different entries than these.
    """
    guests = Guests(form.world, entries)
    factors = {}
    for web, factor in form.terms():
        # A web with more different entries cannot be seated at fewer ones.
        if many_entries(web) > len(entries):
            continue
        counts = list(counted_entries(web).values())
        for places in guests.seated(web):
            powers = [0 for _ in entries]
            for place, count in zip(places, counts):
                powers[place] = count
            factors[tuple(powers)] = plus(factors.get(tuple(powers), ZERO), factor)
    return without_zeros(factors)


def without_zeros(factors):
    """The factors that are not 0."""
    return {powers: factors[powers] for powers in factors if factors[powers] != ZERO}


def with_first(factors, number):
    """What is left of products of powers if the first number is known."""
    found = {}
    for powers, factor in factors.items():
        worth = times(factor, (raised(number, powers[0]), 1))
        found[powers[1:]] = plus(found.get(powers[1:], ZERO), worth)
    return without_zeros(found)


def nonzero_numbers(factors, many):
    """So many numbers for which a sum of products of powers is not 0, None if none are found.

    One number after the other is chosen, the least one for which the sum is not 0 for all that can follow. For a flag
    this is 1, because its number stands only once in each product.
    """
    numbers = []
    for _ in range(many):
        fitting = [number for number in range(1, GREATEST_CHOICE + 1) if with_first(factors, number)]
        if not fitting:
            return None
        numbers.append(fitting[0])
        factors = with_first(factors, fitting[0])
    return numbers
