"""Worlds: the parts that people live in, and the traits that they have."""

from fewtell.errors import InvalidEntry, InvalidPart, InvalidPerson, InvalidTrait, UnknownName
from fewtell.kinds import is_between, is_list, is_tuple_of

LETTERS = "abcdefghijklmnopqrstuvwxyz"
LONGEST_NAME = 8
MOST_SIZES = 3
GREATEST_SIZE = 10 ** 30
MOST_ENDS = 3


def is_name(value):
    """Whether any value is a name."""
    if not isinstance(value, str) or not 1 <= len(value) <= LONGEST_NAME:
        return False
    return all([letter in LETTERS for letter in value])


def is_part(row):
    """Whether any value is a pair (name, sizes)."""
    if not is_tuple_of(row, 2) or not is_name(row[0]):
        return False
    sizes = row[1]
    if not isinstance(sizes, tuple) or not 1 <= len(sizes) <= MOST_SIZES:
        return False
    return all([is_between(size, 1, GREATEST_SIZE) for size in sizes])


def is_trait(row):
    """Whether any value is a tuple (name, ends, is_flag, is_even)."""
    if not is_tuple_of(row, 4) or not is_name(row[0]):
        return False
    _, ends, is_flag, is_even = row
    return is_between(ends, 1, MOST_ENDS) and isinstance(is_flag, bool) and isinstance(is_even, bool)


def first_wrong(rows, most, is_right):
    """The index of the first row that a world refuses, None if it takes all of them."""
    if not is_list(rows) or not rows:
        return 0
    names = []
    for index, row in enumerate(rows):
        if index == most or not is_right(row) or row[0] in names:
            return index
        names.append(row[0])
    return None


def people_below(node, sizes):
    """All people below a node, ascending; sizes are those of the levels below it."""
    if not sizes:
        yield node
        return
    deeper = sizes[1:]
    for index in range(sizes[0]):
        child = (*node, index)
        yield from people_below(child, deeper)


def meeting(one, other):
    """The level at which two people meet, None if they are of different parts."""
    if one[0] != other[0]:
        return None
    level = 0
    for index, its_index in zip(one[1:], other[1:]):
        if index != its_index:
            return level
        level = level + 1
    return level


class World:
    """Parts with their people, and traits. A world never changes."""

    MOST_PARTS = 3
    MOST_TRAITS = 6

    def __init__(self, parts, traits):
        index = first_wrong(parts, World.MOST_PARTS, is_part)
        if index is not None:
            raise InvalidPart(index)
        index = first_wrong(traits, World.MOST_TRAITS, is_trait)
        if index is not None:
            raise InvalidTrait(index)
        self._parts = list(parts)
        self._traits = list(traits)

    @classmethod
    def plain(cls, *sizes):
        """The world with one part `all` with these sizes and one trait `f` with one end."""
        return cls([("all", sizes)], [("f", 1, False, False)])

    def parts(self):
        """The list of the pairs (name, sizes)."""
        return list(self._parts)

    def traits(self):
        """The list of the tuples (name, ends, is_flag, is_even)."""
        return list(self._traits)

    def part_named(self, name):
        """The number of the part with a name."""
        for number, (known, _) in enumerate(self._parts):
            if known == name:
                return number
        raise UnknownName(name)

    def trait_named(self, name):
        """The tuple of the trait with a name."""
        for trait in self._traits:
            if trait[0] == name:
                return trait
        raise UnknownName(name)

    def sizes(self, part):
        """The sizes of the part with a number."""
        return self._parts[part][1]

    def depth(self, part):
        """The number of levels below the root of the part with a number."""
        return len(self._parts[part][1])

    def size(self, part):
        """The number of people of the part with a number."""
        people = 1
        for children in self._parts[part][1]:
            people = people * children
        return people

    def is_node(self, value):
        """Whether any value is a node of this world."""
        if not isinstance(value, tuple) or not value or not is_between(value[0], 0, len(self._parts) - 1):
            return False
        sizes = self._parts[value[0]][1]
        if len(value) > 1 + len(sizes):
            return False
        return all([is_between(index, 0, size - 1) for index, size in zip(value[1:], sizes)])

    def is_person(self, value):
        """Whether any value is a person of this world."""
        return self.is_node(value) and len(value) == 1 + self.depth(value[0])

    def meet(self, one, other):
        """The level at which two people meet, None if they are of different parts."""
        for value in (one, other):
            if not self.is_person(value):
                raise InvalidPerson(value)
        return meeting(one, other)

    def entry(self, trait, people):
        """The standard entry of a trait for a tuple of people."""
        _, ends, _, is_even = self.trait_named(trait)
        if not is_tuple_of(people, ends) or not all([self.is_person(person) for person in people]):
            raise InvalidEntry(people)
        if is_even:
            return (trait, tuple(sorted(people)))
        return (trait, people)

    def all_people(self):
        """Generates all people, ascending."""
        for part, (_, sizes) in enumerate(self._parts):
            root = (part,)
            yield from people_below(root, sizes)

    def __len__(self):
        return len(self._parts)

    def __eq__(self, other):
        return isinstance(other, World) and self._parts == other._parts and self._traits == other._traits

    def __repr__(self):
        return f"World({len(self._parts)} parts, {len(self._traits)} traits)"
