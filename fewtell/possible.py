"""Whether a target can be guessed from what a drawing shows, and the guess for it."""

from fewtell.alike import Answer, form_at, nonzero_numbers
from fewtell.errors import Barred, HasWishes, InvalidWeb, UnlikeWorlds
from fewtell.forms import form_of_rows
from fewtell.guesses import check_target, is_right
from fewtell.kinds import raised
from fewtell.populations import Population, entry_of_row
from fewtell.ratios import ONE, ZERO, over, plus, times
from fewtell.webs import MOST_PEOPLE, is_web_for, web_entries

MOST_ENTRIES = 8


def check_unwished(plan, web):
    """Raises InvalidWeb for any value that is no web of the world of a plan, or that has wishes."""
    if not is_web_for(plan.world, web, ()):
        raise InvalidWeb(web)


def masks_of_waves(plan):
    """For each wave of a plan a number with a bit for the wave and one for each of its roots."""
    bits = {name: 1 << number for number, name in enumerate(plan.names())}
    return {name: sum([bits[wave] for wave in [name, *plan.roots(name)]]) for name in plan.names()}


def ways_to_see(plan, masks, trait, positions):
    """The wishes that each make sure that an entry of a web is seen, as numbers with bits.

    The bits for the person at a position stand behind those for the people at the positions before.
    """
    found = []
    for name, wave, ends in plan.sights():
        if name == trait:
            wished = [masks[wave] << (at * len(plan)) for at in positions]
            if ends == "any":
                found.extend(wished)
            elif ends == "first":
                found.append(wished[0])
            else:
                found.append(all_bits(wished))
    return tuple(sorted({way for way in found}))


def all_bits(masks):
    """The number with the bits of some numbers."""
    found = 0
    for mask in masks:
        found = found | mask
    return found


def added(counts, others, sign):
    """Counts of wishes with those of others added, or taken away if the sign is -1; without those that are 0."""
    found = {mask: counts[mask] for mask in counts}
    for mask, count in others.items():
        found[mask] = found.get(mask, 0) + sign * count
    return {mask: count for mask, count in found.items() if count != 0}


def joined_by(counts, way):
    """Counts of wishes, each together with the wishes of a way to see an entry."""
    found = {}
    for mask, count in counts.items():
        found[mask | way] = found.get(mask | way, 0) + count
    return found


def seen_by(counts, ways):
    """Counts of wishes, each where one of the ways to see an entry is given, too."""
    missed = counts
    # Not seen is: not in the first way, and not in the second way, and so on.
    for way in ways:
        missed = added(missed, joined_by(missed, way), -1)
    return added(counts, missed, -1)


def wishes_of(plan, mask, many):
    """The wishes for so many people that a number with bits stands for."""
    found = []
    for at in range(many):
        bits = mask >> (at * len(plan))
        wished = [name for number, name in enumerate(plan.names()) if (bits >> number) & 1 == 1]
        found.append(plan.least(tuple(wished)))
    return tuple(found)


def seen_rows(plan, web):
    """The pairs (web, count) with wishes that add up to the web over the seatings all of whose entries are seen."""
    people, _, entries = web
    masks = masks_of_waves(plan)
    # Entries that are seen in the same ways are seen together.
    conditions = sorted({ways_to_see(plan, masks, trait, positions) for trait, positions in web_entries(web)})
    counts = {0: 1}
    for ways in conditions:
        counts = seen_by(counts, ways)
    return [((people, wishes_of(plan, mask, len(people)), entries), count) for mask, count in counts.items()]


def chance_of_rows(plan, rows):
    """The sum of the chances of webs, as often as they count."""
    found = ZERO
    for web, count in rows:
        found = plus(found, times(plan.chance_among(web, plan.names()), (count, 1)))
    return found


def sight(plan, web):
    """The chance that all entries of a seating of a web without wishes are seen."""
    check_unwished(plan, web)
    return chance_of_rows(plan, seen_rows(plan, web))


def seen_web(plan, web):
    """The form whose number for a drawing is the sum of a web over the seatings all of whose entries are seen."""
    check_unwished(plan, web)
    return form_of_rows(plan.world, [(its, (count, 1)) for its, count in seen_rows(plan, web)])


def is_right_guess(plan, target, form):
    """Whether any form is a right guess for a target."""
    try:
        return is_right(plan, form, target)
    except (UnlikeWorlds, InvalidWeb, HasWishes):
        return False


class Possible(Answer):
    """A target can be guessed, and a form guesses it."""

    def __init__(self, plan, target, form):
        super().__init__(plan.world)
        self._plan = plan
        self._target = target
        self._form = form

    @property
    def plan(self):
        """The plan of drawing."""
        return self._plan

    @property
    def target(self):
        """The form that is guessed."""
        return self._target

    @property
    def form(self):
        """The guess."""
        return self._form

    @property
    def is_yes(self):
        """Whether the answer is yes."""
        return True

    def told(self):
        """The word for what is told."""
        return "possible"

    def holds(self):
        """Whether the form is a right guess."""
        return is_right_guess(self._plan, self._target, self._form)


class Closed(Answer):
    """A target cannot be guessed, as populations with signs show, which have some entries with these numbers."""

    def __init__(self, plan, target, rows):
        super().__init__(plan.world)
        self._plan = plan
        self._target = target
        self._rows = list(rows)

    @property
    def plan(self):
        """The plan of drawing."""
        return self._plan

    @property
    def target(self):
        """The form that cannot be guessed."""
        return self._target

    @property
    def is_yes(self):
        """Whether the answer is yes."""
        return False

    def told(self):
        """The word for what is told."""
        return "closed"

    def rows(self):
        """The list of the pairs (entry, number)."""
        return list(self._rows)

    def populations(self):
        """The list of the pairs (sign, population), one for each lot of the entries."""
        lots = [(raised(-1, len(self._rows)), ())]
        for row in self._rows:
            lots = lots + [(-sign, (*lot, row)) for sign, lot in lots]
        return [(sign, Population(self.world, lot)) for sign, lot in lots]

    def holds(self):
        """Whether no drawing shows all of the entries, and the target does not vanish for the signed populations."""
        if not are_closing(self.world, self._rows):
            return False
        if sight(self._plan, web_of_entries([entry for entry, _ in self._rows])) != ZERO:
            return False
        return signed_number(self._target, self._rows) != ZERO


def is_closing(world, row):
    """Whether any value is a pair of a standard entry and a number other than 0 for it."""
    entry = entry_of_row(world, row)
    return entry is not None and entry == row[0] and row[1] != 0


def are_closing(world, rows):
    """Whether rows are pairs of a few different standard entries with few people, and of numbers for them."""
    if not 1 <= len(rows) <= MOST_ENTRIES or not all([is_closing(world, row) for row in rows]):
        return False
    entries = [entry for entry, _ in rows]
    return len({entry for entry in entries}) == len(rows) and len(people_of(entries)) <= MOST_PEOPLE


def people_of(entries):
    """The ascending list of the people of some entries."""
    return sorted({person for _, people in entries for person in people})


def web_of_entries(entries):
    """The web of different standard entries with the people that they have."""
    people = people_of(entries)
    places = {person: at for at, person in enumerate(people)}
    pairs = [(trait, tuple([places[person] for person in row])) for trait, row in entries]
    return (tuple(people), tuple([() for _ in people]), tuple(sorted(pairs)))


def factors_with_all(target, entries):
    """What a target is if only these entries are not 0, as far as it needs all of them; as in form_at."""
    factors = form_at(target, entries)
    return {powers: factors[powers] for powers in factors if 0 not in powers}


def signed_number(target, rows):
    """The sum of the signs times the numbers of a target for the populations of rows."""
    found = ZERO
    # With the signs, products without one of the entries stand against each other, and only the others are left.
    for powers, factor in factors_with_all(target, [entry for entry, _ in rows]).items():
        product = ONE
        for power, (_, number) in zip(powers, rows):
            product = times(product, (raised(number, power), 1))
        found = plus(found, times(factor, product))
    return found


def closing_rows(target, web):
    """The entries of a web of a target, with numbers for which the target does not vanish if such are found."""
    people, _, _ = web
    entries = [target.world.entry(trait, tuple([people[at] for at in positions]))
               for trait, positions in web_entries(web)]
    numbers = nonzero_numbers(factors_with_all(target, entries), len(entries))
    if numbers is None:
        numbers = [1 for _ in entries]
    return list(zip(entries, numbers))


def guess_for(plan, target):
    """A Possible with the guess for a target, or a Closed."""
    try:
        form = estimate_form(plan, target)
    except Barred as barred:
        return Closed(plan, target, closing_rows(target, barred.web))
    return Possible(plan, target, form)


def estimate_form(plan, target):
    """The guess for a target: its seen webs, each divided by its chance of sight."""
    check_target(plan, target)
    rows = []
    for web, factor in target.terms():
        seen = seen_rows(plan, web)
        chance = chance_of_rows(plan, seen)
        if chance == ZERO:
            raise Barred(web)
        share = over(factor, chance)
        rows.extend([(its, times(share, (count, 1))) for its, count in seen])
    return form_of_rows(plan.world, rows)
