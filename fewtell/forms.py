"""Forms: sums of webs, each with a factor; and the forms of programs."""

from fewtell.errors import HasWishes, InvalidRow, TooLarge, TooWide, UnlikeWorlds
from fewtell.kinds import is_list, is_number, is_tuple_of, raised
from fewtell.programs import MOST_DEGREE, MOST_PLACES, check_program, multiplied_out
from fewtell.ratios import ZERO, is_ratio, plus, ratio, ratio_text, times
from fewtell.seats import Guests, places_beside, taken_out, web_of_seats, web_product
from fewtell.webs import all_standard, counted_entries, is_web_for, standard, web_text
from fewtell.worlds import meeting


def first_wrong_term(world, terms):
    """The index of the first item that is no pair (web, fraction), None if there is none."""
    if not is_list(terms):
        return 0
    for index, row in enumerate(terms):
        if not is_tuple_of(row, 2) or not is_web_for(world, row[0], None) or not is_ratio(row[1]):
            return index
    return None


def added_up(rows):
    """The sum of the factors for each web in pairs (standard web, factor), without those that are 0."""
    factors = {}
    for web, factor in rows:
        factors[web] = plus(factors.get(web, ZERO), factor)
    return {web: factors[web] for web in sorted(factors) if factors[web] != ZERO}


def standard_rows(world, rows):
    """Pairs (web, factor) with standard webs."""
    webs = all_standard(world, [web for web, _ in rows])
    return [(web, row[1]) for web, row in zip(webs, rows)]


def form_with(world, factors):
    """The form with factors other than 0 for standard webs in ascending order."""
    form = Form(world)
    form._factors = factors
    return form


def form_of_rows(world, rows):
    """The form of pairs (web, factor), of which it is known that they are right."""
    return form_with(world, added_up(standard_rows(world, rows)))


def scaled(form, factor):
    """A form times a fraction."""
    return form_with(form.world, added_up([(web, times(its_factor, factor)) for web, its_factor in form.terms()]))


def check_worlds(one, other):
    """Raises UnlikeWorlds if two forms, or a form and a population, are of unlike worlds."""
    if one.world != other.world:
        raise UnlikeWorlds()


def check_plain(form):
    """Raises HasWishes if a form has wishes."""
    if has_wishes(form):
        raise HasWishes()


def has_wishes(form):
    """Whether a web of a form has wishes."""
    return any([names != () for web, _ in form.terms() for names in web[1]])


def web_number(guests, numbers, web):
    """The sum of a web over the seatings of guests, whose entries have these numbers."""
    counts = list(counted_entries(web).values())
    found = 0
    for places in guests.seated(web):
        product = 1
        for place, count in zip(places, counts):
            product = product * raised(numbers[place], count)
        found = found + product
    return found


def form_number(form, population, waves):
    """The number of a form for a population, and for a drawing with the pairs (name, people) of its waves."""
    rows = population.rows()
    guests = Guests(form.world, [entry for entry, _ in rows], waves)
    numbers = [number for _, number in rows]
    found = ZERO
    for web, factor in form.terms():
        found = plus(found, times(factor, (web_number(guests, numbers, web), 1)))
    return found


class Form:
    """A sum of standard webs, each with a factor other than 0; it never changes."""

    def __init__(self, world, terms=()):
        index = first_wrong_term(world, terms)
        if index is not None:
            raise InvalidRow(index)
        self._world = world
        self._factors = added_up(standard_rows(world, terms))

    @property
    def world(self):
        """The world of the webs."""
        return self._world

    @property
    def width(self):
        """The greatest number of people of a web."""
        return max([len(web[0]) for web in self._factors], default=0)

    @property
    def degree(self):
        """The greatest number of entries of a web, with repetitions."""
        return max([len(web[2]) for web in self._factors], default=0)

    def terms(self):
        """The ascending list of the pairs (web, factor)."""
        return list(self._factors.items())

    def factor(self, web):
        """The factor of a web."""
        return self._factors.get(standard(self._world, web), ZERO)

    def over(self, number):
        """The form divided by a number other than 0."""
        return scaled(self, ratio(1, number))

    def value(self, population):
        """The number of the form for a population."""
        check_worlds(self, population)
        check_plain(self)
        return form_number(self, population, [])

    def __add__(self, other):
        if not isinstance(other, Form):
            return NotImplemented
        check_worlds(self, other)
        return form_with(self._world, added_up([*self.terms(), *other.terms()]))

    def __sub__(self, other):
        if not isinstance(other, Form):
            return NotImplemented
        return self + -other

    def __neg__(self):
        return scaled(self, (-1, 1))

    def __mul__(self, other):
        if is_number(other):
            return scaled(self, (other, 1))
        if not isinstance(other, Form):
            return NotImplemented
        return product_of(self, other)

    def __rmul__(self, other):
        if is_number(other):
            return scaled(self, (other, 1))
        return NotImplemented

    def __contains__(self, x):
        return self.factor(x) != ZERO

    def __len__(self):
        return len(self._factors)

    def __bool__(self):
        return bool(self._factors)

    def __eq__(self, other):
        return isinstance(other, Form) and self._world == other._world and self._factors == other._factors

    def __str__(self):
        if not self._factors:
            return "0"
        return " + ".join([f"{ratio_text(factor)} {web_text(web)}" for web, factor in self._factors.items()])

    def __repr__(self):
        return f"Form({len(self._factors)} webs)"


def product_of(one, other):
    """The product of two forms."""
    check_worlds(one, other)
    if one.width + other.width > MOST_PLACES:
        raise TooWide(MOST_PLACES)
    if one.degree + other.degree > MOST_DEGREE:
        raise TooLarge(MOST_DEGREE)
    rows = []
    for web, factor in one.terms():
        for its_web, its_factor in other.terms():
            both = times(factor, its_factor)
            for found in web_product(one.world, web, its_web):
                rows.append((found, both))
    return form_of_rows(one.world, rows)


def holds_for(world, test, seats):
    """Whether a test other than that of a wave is 1 if its variables stand for these people."""
    kind, label, variables = test
    if kind == "same":
        return seats[variables[0]] == seats[variables[1]]
    if kind == "part":
        return world.part_named(label) == seats[variables[0]][0]
    level = meeting(seats[variables[0]], seats[variables[1]])
    return level is not None and level >= label


def all_seats(world, many, tests):
    """All ways to give people to so many variables, up to their numbering, for which the tests are 1."""
    found = [()]
    for number in range(many):
        # A test is looked at as soon as all of its variables stand for people.
        due = [test for test in tests if max(test[2]) == number]
        longer = []
        for seats in found:
            for place in places_beside(world, seats):
                more = (*seats, place)
                if all([holds_for(world, test, more) for test in due]):
                    longer.append(more)
        found = longer
    return found


def rows_of_product(world, factor, many, atoms):
    """The pairs (web, factor) of a product of traits and tests, summed over the people for all its variables."""
    pairs = [(label, variables) for kind, label, variables in atoms if kind == "trait"]
    waves = [(label, variables) for kind, label, variables in atoms if kind == "wave"]
    tests = [atom for atom in atoms if atom[0] not in ("trait", "wave")]
    wishes = [[name for name, variables in waves if variables == (number,)] for number in range(many)]
    rows = []
    for seats in all_seats(world, many, tests):
        web, count = taken_out(world, web_of_seats(world, seats, wishes, pairs))
        rows.append((web, times(factor, (count, 1))))
    return rows


def form_of_program(world, program):
    """The form of a program that was checked; each test of a wave becomes a wish."""
    rows = []
    for factor, many, atoms in multiplied_out(program):
        rows.extend(rows_of_product(world, factor, many, atoms))
    return form_of_rows(world, rows)


def form_of(world, program):
    """The form of a program without waves."""
    check_program(world, program)
    return form_of_program(world, program)


def constant(world, value):
    """The form whose number is always this fraction."""
    return Form(world, [(((), (), ()), value)])
