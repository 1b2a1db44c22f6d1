"""Surveys: a drawing with what was told about it, and the targets that are estimated from it."""

from fewtell.errors import DuplicateName, InvalidName, InvalidNumber, InvalidRow, NothingLeft, NotTold, TooMany
from fewtell.errors import UnknownName, UnlikeWorlds, Unseen
from fewtell.kinds import is_tuple_of
from fewtell.populations import Population, is_number_of
from fewtell.possible import estimate_form
from fewtell.worlds import is_name


def check_drawing(plan, drawing):
    """Raises UnlikeWorlds for a drawing that is not one of an equal plan."""
    if drawing.plan != plan:
        raise UnlikeWorlds()


def with_told(drawing, numbers, trait, people, value):
    """Told numbers together with that of one more entry, or with another number for one of them."""
    world = drawing.plan.world
    entry = world.entry(trait, people)
    if not drawing.sees(trait, people):
        raise Unseen(entry)
    if not is_number_of(world, trait, value):
        raise InvalidNumber(value)
    found = {known: number for known, number in numbers.items() if known != entry}
    if len(found) >= Population.MOST:
        raise TooMany(Population.MOST)
    found[entry] = value
    return found


def changed_traits(numbers, others):
    """The names of the traits of entries with different numbers, where one that is not told has the number 0."""
    return [entry[0] for entry in [*numbers, *others] if numbers.get(entry, 0) != others.get(entry, 0)]


def needs_one(target, traits):
    """Whether one of some traits occurs in a target."""
    return any([trait in traits for web, _ in target.terms() for trait, _ in web[2]])


def still_kept(estimates, state, other):
    """The estimates that stay the same if a state of a survey becomes another one by a step."""
    _, drawing, numbers, _ = state
    _, its_drawing, its_numbers, its_targets = other
    # Equal drawings have equal plans, and no step puts another target under a name that stays.
    if drawing != its_drawing:
        return {}
    changed = changed_traits(numbers, its_numbers)
    return {name: estimate for name, estimate in estimates.items()
            if name in its_targets and not needs_one(its_targets[name][0], changed)}


class Survey:
    """Numbers that were told for the seen entries of a drawing, and kept targets; each change can be undone."""

    MOST = 8

    def __init__(self, plan, drawing):
        check_drawing(plan, drawing)
        # The plan, the drawing, the told numbers by their entries, and the pairs (target, guess) by their names. A
        # state is never changed, so that those of the past can be kept as they are.
        self._state = (plan, drawing, {}, {})
        self._past = []
        self._future = []
        self._kept = {}
        self._computed = 0
        self._in_trial = False

    @property
    def plan(self):
        """The plan of drawing."""
        return self._state[0]

    @property
    def drawing(self):
        """The drawing."""
        return self._state[1]

    @property
    def computed(self):
        """How many estimates were computed."""
        return self._computed

    @property
    def in_trial(self):
        """Whether a function that is tried is running."""
        return self._in_trial

    def told(self):
        """The population of the told numbers."""
        plan, _, numbers, _ = self._state
        return Population(plan.world, list(numbers.items()))

    def tell(self, trait, people, value):
        """Tells a number, or another one, for an entry."""
        self.tell_all((trait, people, value))

    def tell_all(self, *rows):
        """Tells the numbers of rows (trait, people, value) as one step."""
        for index, row in enumerate(rows):
            if not is_tuple_of(row, 3):
                raise InvalidRow(index)
        plan, drawing, numbers, targets = self._state
        for trait, people, value in rows:
            numbers = with_told(drawing, numbers, trait, people, value)
        self._step((plan, drawing, numbers, targets))

    def take_back(self, trait, people):
        """Takes the number of an entry back."""
        plan, drawing, numbers, targets = self._state
        entry = plan.world.entry(trait, people)
        if entry not in numbers:
            raise NotTold(entry)
        left = {known: number for known, number in numbers.items() if known != entry}
        self._step((plan, drawing, left, targets))

    def is_told(self, trait, people):
        """Whether a number was told for an entry."""
        plan, _, numbers, _ = self._state
        return plan.world.entry(trait, people) in numbers

    def keep(self, name, target):
        """Keeps a target under a name."""
        plan, drawing, numbers, targets = self._state
        if not is_name(name):
            raise InvalidName(name)
        if name in targets:
            raise DuplicateName(name)
        if len(targets) >= Survey.MOST:
            raise TooMany(Survey.MOST)
        more = dict(targets)
        more[name] = (target, estimate_form(plan, target))
        self._step((plan, drawing, numbers, more))

    def drop(self, name):
        """Drops the target with a name."""
        plan, drawing, numbers, targets = self._state
        self._check_name(name)
        left = {known: row for known, row in targets.items() if known != name}
        self._step((plan, drawing, numbers, left))

    def names(self):
        """The ascending list of the names of the targets."""
        return sorted(self._state[3])

    def target_named(self, name):
        """The target with a name."""
        self._check_name(name)
        return self._state[3][name][0]

    def estimate(self, name):
        """The number of the guess for a target."""
        self._check_name(name)
        if name not in self._kept:
            form = self._state[3][name][1]
            self._kept[name] = self.drawing.value(form, self.told())
            self._computed = self._computed + 1
        return self._kept[name]

    def kept(self):
        """The ascending list of the names with kept estimates."""
        return sorted(self._kept)

    def redraw(self, plan, drawing):
        """Takes another plan and another drawing; numbers of entries that are not seen any more are dropped."""
        if plan.world != self.plan.world:
            raise UnlikeWorlds()
        check_drawing(plan, drawing)
        _, _, numbers, targets = self._state
        forms = {name: (targets[name][0], estimate_form(plan, targets[name][0])) for name in sorted(targets)}
        seen = {entry: number for entry, number in numbers.items() if drawing.sees(entry[0], entry[1])}
        self._step((plan, drawing, seen, forms))

    def undo(self):
        """Takes the last step back."""
        if not self._past:
            raise NothingLeft()
        self._future.append(self._state)
        self._go_to(self._past.pop())

    def redo(self):
        """Makes the step again that was taken back last."""
        if not self._future:
            raise NothingLeft()
        self._past.append(self._state)
        self._go_to(self._future.pop())

    def history(self):
        """The pair of the numbers of steps that can be undone and redone."""
        return (len(self._past), len(self._future))

    def twin(self):
        """An independent survey in the same state."""
        other = Survey(self.plan, self.drawing)
        other._state = self._state
        other._past = list(self._past)
        other._future = list(self._future)
        other._kept = dict(self._kept)
        other._computed = self._computed
        return other

    def tried(self, action):
        """What a function returns that is called with the survey; all that it changes is put back behind it."""
        state = self._state
        past = list(self._past)
        future = list(self._future)
        kept = dict(self._kept)
        in_trial = self._in_trial
        self._in_trial = True
        try:
            return action(self)
        finally:
            self._state = state
            self._past = past
            self._future = future
            self._kept = kept
            self._in_trial = in_trial

    def _check_name(self, name):
        """Raises UnknownName for any value that is not the name of a target."""
        if name not in self.names():
            raise UnknownName(name)

    def _step(self, state):
        """Makes a step to another state."""
        self._past.append(self._state)
        self._future = []
        self._go_to(state)

    def _go_to(self, state):
        """Takes another state, with the estimates that are the same in it."""
        self._kept = still_kept(self._kept, self._state, state)
        self._state = state

    def __len__(self):
        return len(self._state[2])

    def __eq__(self, other):
        # Guesses for equal targets by equal plans are equal.
        return isinstance(other, Survey) and self._state == other._state

    def __repr__(self):
        return f"Survey({len(self._state[2])} told)"
