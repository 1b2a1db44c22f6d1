"""Where the people of webs can be: beside other people, in their place, and in the places of entries."""

from itertools import permutations

from fewtell.webs import child_counts, ordered_entries, seatings_of, touched, traits_by_name, web_entries
from fewtell.worlds import meeting


def places_beside(world, people):
    """Where one more person can be beside people that are numbered as in standard webs, up to this numbering.

    The person can be one of them, can come below each node above them that has a child left, or can be in a part
    without any of them.
    """
    found = sorted({person for person in people})
    counts = child_counts(people)
    for node, many in counts.items():
        sizes = world.sizes(node[0])
        if many < sizes[len(node) - 1]:
            found.append((*node, many, *[0 for _ in sizes[len(node):]]))
    for part in range(len(world)):
        if (part,) not in counts:
            found.append((part, *[0 for _ in world.sizes(part)]))
    return found


def meets_as(guest, guests, place, places):
    """Whether a place is in the part of a guest and meets other places as the guest meets other guests."""
    if place[0] != guest[0]:
        return False
    return all([meeting(guest, one) == meeting(place, other) for one, other in zip(guests, places)])


def places_for(world, people, guests):
    """All ways to seat different guests, who meet each other as they do, beside people or in their places."""
    found = [()]
    for number, guest in enumerate(guests):
        longer = []
        for places in found:
            for place in places_beside(world, (*people, *places)):
                if meets_as(guest, guests[:number], place, places):
                    longer.append((*places, place))
        found = longer
    return found


def wishes_at(at, places, wishes):
    """The wishes for the person at a position, out of those for the seats, which have their positions in places."""
    return tuple(sorted({name for place, names in zip(places, wishes) if place == at for name in names}))


def web_of_seats(world, seats, wishes, pairs):
    """The web, perhaps with people that are not touched, of people some of which may be the same ones.

    wishes has names of waves for each seat; pairs are pairs (name of a trait, positions of seats).
    """
    numbers = {}
    for seat in seats:
        if seat not in numbers:
            numbers[seat] = len(numbers)
    places = [numbers[seat] for seat in seats]
    entries = [(name, tuple([places[at] for at in positions])) for name, positions in pairs]
    names = [wishes_at(number, places, wishes) for number in range(len(numbers))]
    return (tuple(numbers), tuple(names), ordered_entries(traits_by_name(world), entries))


def taken_out(world, web):
    """A web without the people that are not touched, and in how many ways they can be beside the others."""
    people, wishes, entries = web
    kept = touched(wishes, entries)
    places = {at: number for number, at in enumerate(kept)}
    left = tuple([people[at] for at in kept])
    pairs = [(name, tuple([places[at] for at in positions])) for name, positions in entries]
    count = seatings_of(world, people) // seatings_of(world, left)
    return (left, tuple([wishes[at] for at in kept]), tuple(pairs)), count


def web_product(world, one, other):
    """The webs whose sums add up to the product of the sums of two standard webs, one for each way to seat both."""
    people, wishes, pairs = one
    its_people, its_wishes, its_pairs = other
    many = len(people)
    moved = [(name, tuple([at + many for at in positions])) for name, positions in its_pairs]
    return [web_of_seats(world, (*people, *places), (*wishes, *its_wishes), (*pairs, *moved))
            for places in places_for(world, people, its_people)]


def orders_of(guests, is_even):
    """The different orders in which the people of an entry may stand there."""
    if not is_even:
        return [tuple(guests)]
    return sorted({order for order in permutations(guests)})


class Guests:
    """People who can take the places of the people of webs: those of some standard entries, and those in waves."""

    def __init__(self, world, entries, waves=()):
        rows = [row for _, row in [*entries, *waves]]
        people = sorted({person for row in rows for person in row})
        numbers = {person: number for number, person in enumerate(people)}
        traits = traits_by_name(world)
        self._parts = [person[0] for person in people]
        self._meets = [[meeting(one, other) for other in people] for one in people]
        self._waves = {name: [numbers[person] for person in row] for name, row in waves}
        self._rows = {name: [] for name in traits}
        for number, (name, row) in enumerate(entries):
            guests = [numbers[person] for person in row]
            for order in orders_of(guests, traits[name][3]):
                self._rows[name].append((number, order))

    def seated(self, web):
        """The seatings of a web that only have these entries, and have the people in the waves that are wished.

        For each one the numbers of its entries are told, in the order of the different pairs of the web. All people of
        the web have entries or wishes.
        """
        people = web[0]
        fits = [self.fitting(person[0], names) for person, names in zip(people, web[1])]
        levels = [[meeting(one, other) for other in people] for one in people]
        found = [([None for _ in people], ())]
        for name, positions in web_entries(web):
            longer = []
            for seats, numbers in found:
                for number, guests in self._rows[name]:
                    more = self.seats_with(fits, levels, seats, positions, guests)
                    if more is not None:
                        longer.append((more, (*numbers, number)))
            found = longer
        for at in range(len(people)):
            found = [(more, numbers) for seats, numbers in found for more in self.all_seats(fits, levels, seats, at)]
        return [numbers for _, numbers in found]

    def fitting(self, part, wishes):
        """The guests of a part who are in all wished waves."""
        rows = [self._waves[name] for name in wishes]
        return {guest: True for guest, its_part in enumerate(self._parts)
                if its_part == part and all([guest in row for row in rows])}

    def all_seats(self, fits, levels, seats, at):
        """Seats of a web with each guest who can sit at a position, if nobody sits there."""
        if seats[at] is not None:
            return [seats]
        return [[*seats[:at], guest, *seats[at + 1:]] for guest in fits[at]
                if self.can_sit(fits, levels, seats, at, guest)]

    def seats_with(self, fits, levels, seats, positions, guests):
        """Seats of a web in which guests have taken some positions, too; None if they cannot sit there."""
        found = list(seats)
        for at, guest in zip(positions, guests):
            if not self.can_sit(fits, levels, found, at, guest):
                return None
            found[at] = guest
        return found

    def can_sit(self, fits, levels, seats, at, guest):
        """Whether a guest fits a position, and meets those in the seats as its person does."""
        if guest not in fits[at]:
            return False
        # A seat that is taken can be taken again by the same guest only, who meets itself at the depth of its part.
        for place, other in enumerate(seats):
            if other is not None and self._meets[guest][other] != levels[at][place]:
                return False
        return True
