"""Webs: a few people of a world with the wishes for them and with entries of them, whatever their numbers are."""

from itertools import permutations
from math import perm

from fewtell.errors import InvalidWeb
from fewtell.kinds import is_between, is_tuple_of
from fewtell.worlds import is_name

MOST_PEOPLE = 4


def is_ascending(rows):
    """Whether some rows are in ascending order; one may stand there several times."""
    return all([one <= other for one, other in zip(rows, rows[1:])])


def is_rising(rows):
    """Whether some rows are in ascending order, without duplicates."""
    return all([one < other for one, other in zip(rows, rows[1:])])


def are_wishes(value, waves):
    """Whether any value is the wishes for a person; waves are the names for them, None for any names."""
    if not isinstance(value, tuple):
        return False
    for name in value:
        if not is_name(name) or (waves is not None and name not in waves):
            return False
    return is_rising(value)


def is_pair(traits, value, many):
    """Whether any value is a pair (name of a trait, positions) in a web of so many people."""
    if not is_tuple_of(value, 2):
        return False
    for name, ends, _, is_even in traits:
        if name == value[0]:
            positions = value[1]
            if not is_tuple_of(positions, ends) or not all([is_between(at, 0, many - 1) for at in positions]):
                return False
            return not is_even or is_ascending(positions)
    return False


def are_entries(world, value, many):
    """Whether any value is the entries of a web of so many people."""
    traits = world.traits()
    if not isinstance(value, tuple) or not all([is_pair(traits, pair, many) for pair in value]):
        return False
    flags = [name for name, _, is_flag, _ in traits if is_flag]
    return is_ascending(value) and is_rising([pair for pair in value if pair[0] in flags])


def are_people(world, value):
    """Whether any value is the people of a web."""
    if not isinstance(value, tuple) or len(value) > MOST_PEOPLE:
        return False
    for number, person in enumerate(value):
        if not world.is_person(person) or person in value[:number]:
            return False
    return True


def touched(wishes, entries):
    """The ascending list of the positions in a web that are touched."""
    places = [at for _, positions in entries for at in positions]
    return [at for at, names in enumerate(wishes) if names or at in places]


def is_web_for(world, value, waves):
    """Whether any value is a web of a world; waves are the names for its wishes, None for any names."""
    if not is_tuple_of(value, 3) or not are_people(world, value[0]):
        return False
    people, wishes, entries = value
    if not is_tuple_of(wishes, len(people)) or not all([are_wishes(names, waves) for names in wishes]):
        return False
    return are_entries(world, entries, len(people)) and len(touched(wishes, entries)) == len(people)


def is_web(world, value, *, waves=()):
    """Whether any value is a web of a world, with wishes for these waves only."""
    return is_web_for(world, value, waves)


def check_web(world, value):
    """Raises InvalidWeb for any value that is no web of a world, with any names of waves."""
    if not is_web_for(world, value, None):
        raise InvalidWeb(value)


def numbered(people):
    """People with the children under each node numbered in the order in which the people first come to them."""
    nodes = {}
    counts = {}
    for person in people:
        for level in range(1, len(person)):
            above, child = person[:level], person[:level + 1]
            if child not in nodes:
                many = counts.get(above, 0)
                nodes[child] = (*nodes.get(above, above), many)
                counts[above] = many + 1
    return tuple([nodes[person] for person in people])


def least_orders(people):
    """The least tuple that people can be numbered as, and the orders of them that lead to it."""
    least = None
    orders = []
    for order in permutations(range(len(people))):
        found = numbered([people[at] for at in order])
        if least is None or found < least:
            least = found
            orders = [order]
        elif found == least:
            orders.append(order)
    return least, orders


def traits_by_name(world):
    """The traits of a world by their names."""
    return {trait[0]: trait for trait in world.traits()}


def ordered_entries(traits, pairs):
    """Pairs (name of a trait, positions) as the entries of a web: in order, and those of flags only once."""
    found = []
    for name, positions in pairs:
        _, _, is_flag, is_even = traits[name]
        pair = (name, tuple(sorted(positions))) if is_even else (name, positions)
        if not is_flag or pair not in found:
            found.append(pair)
    return tuple(sorted(found))


def reordered(traits, order, wishes, entries):
    """The wishes and the entries of a web whose people are put into another order."""
    places = {at: number for number, at in enumerate(order)}
    pairs = [(name, tuple([places[at] for at in positions])) for name, positions in entries]
    return tuple([wishes[at] for at in order]), ordered_entries(traits, pairs)


def all_standard(world, webs):
    """The list of the standard webs of some webs of a world."""
    traits = traits_by_name(world)
    known = {}
    found = []
    for people, wishes, entries in webs:
        # Webs of the same people have the same orders, and forms have many of them.
        if people not in known:
            known[people] = least_orders(people)
        least, orders = known[people]
        rest = min([reordered(traits, order, wishes, entries) for order in orders])
        found.append((least, *rest))
    return found


def standard(world, web):
    """The standard web of a web."""
    check_web(world, web)
    return all_standard(world, [web])[0]


def child_counts(people):
    """For each node above some people, how many of its children are above them, or are such people."""
    children = sorted({person[:level + 1] for person in people for level in range(1, len(person))})
    counts = {}
    for child in children:
        counts[child[:-1]] = counts.get(child[:-1], 0) + 1
    return counts


def seatings_of(world, people):
    """The number of ways to put other people in the place of people who meet each other as they do."""
    found = 1
    for node, many in child_counts(people).items():
        found = found * perm(world.sizes(node[0])[len(node) - 1], many)
    return found


def seatings(world, web):
    """The number of seatings of a web."""
    check_web(world, web)
    return seatings_of(world, web[0])


def counted_entries(web):
    """How often each pair (name of a trait, positions) stands in a web, by the pairs in ascending order."""
    counts = {}
    for pair in sorted(web[2]):
        counts[pair] = counts.get(pair, 0) + 1
    return counts


def web_entries(web):
    """The ascending list of the different pairs (name of a trait, positions) of a web."""
    return list(counted_entries(web))


def pair_text(pair, count):
    """The text of a pair that stands so often in a web."""
    positions = ",".join([str(at) for at in pair[1]])
    text = f"{pair[0]}({positions})"
    if count == 1:
        return text
    return f"{text}^{count}"


def person_text(person, wishes):
    """The text of a person of a web with its wishes."""
    text = ".".join([str(index) for index in person])
    if not wishes:
        return text
    names = ",".join(wishes)
    return f"{text}:{names}"


def web_text(web):
    """The text of a web."""
    people, wishes, _ = web
    pairs = [pair_text(pair, count) for pair, count in counted_entries(web).items()]
    words = ["*".join(pairs) if pairs else "1"]
    if people:
        words.append("@")
    for person, names in zip(people, wishes):
        words.append(person_text(person, names))
    return " ".join(words)
