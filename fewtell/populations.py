"""Populations: the numbers of the entries of a world."""

from fewtell.errors import InvalidEntry, InvalidNumber, InvalidPerson, InvalidRow, TooMany, UnknownName
from fewtell.kinds import is_between, is_list, is_tuple_of

GREATEST_NUMBER = 10 ** 6


def is_number_of(world, trait, value):
    """Whether any value may be the number of an entry of a known trait."""
    _, _, is_flag, _ = world.trait_named(trait)
    if is_flag:
        return is_between(value, 0, 1)
    return is_between(value, -GREATEST_NUMBER, GREATEST_NUMBER)


def standard_entry(world, value):
    """The standard entry of any value that is an entry of a world, None of any other value."""
    if not is_tuple_of(value, 2):
        return None
    try:
        return world.entry(value[0], value[1])
    except (UnknownName, InvalidEntry):
        return None


def entry_of_row(world, row):
    """The standard entry of any value that is a pair (entry, number), None of any other value."""
    if not is_tuple_of(row, 2):
        return None
    entry = standard_entry(world, row[0])
    if entry is None or not is_number_of(world, entry[0], row[1]):
        return None
    return entry


def numbers_of(world, rows):
    """The number of each standard entry that stands in the rows, also the number 0."""
    if not is_list(rows):
        raise InvalidRow(0)
    numbers = {}
    for index, row in enumerate(rows):
        entry = entry_of_row(world, row)
        if entry is None or entry in numbers:
            raise InvalidRow(index)
        numbers[entry] = row[1]
    return numbers


def exchanged(person, one, other):
    """Where a person is after two nodes, with all that is below them, have exchanged their places."""
    if person[:len(one)] == one:
        return (*other, *person[len(one):])
    if person[:len(other)] == other:
        return (*one, *person[len(other):])
    return person


class Population:
    """Numbers for the entries of a world; it never changes."""

    MOST = 30

    def __init__(self, world, rows=()):
        numbers = numbers_of(world, rows)
        kept = {entry: numbers[entry] for entry in sorted(numbers) if numbers[entry] != 0}
        if len(kept) > Population.MOST:
            raise TooMany(Population.MOST)
        self._world = world
        self._numbers = kept

    @property
    def world(self):
        """The world of the entries."""
        return self._world

    def rows(self):
        """The ascending list of the pairs (standard entry, number) whose number is not 0."""
        return list(self._numbers.items())

    def number(self, trait, people):
        """The number of an entry."""
        return self._numbers.get(self._world.entry(trait, people), 0)

    def with_number(self, trait, people, value):
        """The population in which one entry has another number."""
        entry = self._world.entry(trait, people)
        if not is_number_of(self._world, trait, value):
            raise InvalidNumber(value)
        rows = [row for row in self.rows() if row[0] != entry]
        return Population(self._world, [*rows, (entry, value)])

    def people(self):
        """The ascending list of the people that occur in an entry whose number is not 0."""
        return sorted({person for _, people in self._numbers for person in people})

    def moved(self, one, other):
        """The population in which two children of a node have exchanged their places."""
        for value in (one, other):
            if not self._world.is_node(value):
                raise InvalidPerson(value)
        if len(one) < 2 or other[:-1] != one[:-1]:
            raise InvalidPerson(other)
        rows = []
        for (trait, people), number in self.rows():
            rows.append(((trait, tuple([exchanged(person, one, other) for person in people])), number))
        return Population(self._world, rows)

    def __len__(self):
        return len(self._numbers)

    def __eq__(self, other):
        return isinstance(other, Population) and self._world == other._world and self._numbers == other._numbers

    def __repr__(self):
        return f"Population({len(self._numbers)} numbers)"
