"""Whether a right guess for a target is the only one."""

from itertools import combinations

from fewtell.forms import scaled
from fewtell.guesses import mean, plan_form
from fewtell.kinds import is_number
from fewtell.plans import Plan
from fewtell.possible import Possible, estimate_form, is_right_guess, seen_web, sight
from fewtell.ratios import ONE, ZERO, over
from fewtell.spreads import spread

MOST_WIDTH = 2
MOST_ENTRIES = 4


class One(Possible):
    """A form is the only right guess that looks at no names."""

    def __init__(self, plan, target, form):
        super().__init__(plan, target, form)

    def told(self):
        """The word for what is told."""
        return "one"

    def holds(self):
        """Whether the form is a right guess, and the plan lets no other blind one be right."""
        return is_right_guess(self.plan, self.target, self.form) and is_steady(self.plan)


class Another(Possible):
    """Two different forms are right guesses."""

    def __init__(self, plan, target, form, other):
        super().__init__(plan, target, form)
        self._other = other

    @property
    def other(self):
        """The other guess."""
        return self._other

    def told(self):
        """The word for what is told."""
        return "another"

    def holds(self):
        """Whether both are right guesses that are not too great, with a difference that is not always 0."""
        for form in (self.form, self._other):
            if not is_right_guess(self.plan, self.target, form):
                return False
            if form.width > MOST_WIDTH or form.degree > MOST_ENTRIES:
                return False
        return bool(spread(self.plan, self.form - self._other))


class Unsaid(Possible):
    """A form is a right guess; nothing is said about other ones."""

    def __init__(self, plan, target, form):
        super().__init__(plan, target, form)

    def told(self):
        """The word for what is told."""
        return "unsaid"

    def holds(self):
        """Whether the form is a right guess."""
        return is_right_guess(self.plan, self.target, self.form)


def draws_by_number(hows):
    """Whether no level of a wave is drawn by a fraction."""
    return all([how is None or is_number(how) for row in hows for how in row])


def is_steady(plan):
    """Whether a plan draws by numbers, and sees all that it sees by a wave that all others are roots of."""
    waves = sorted({wave for _, wave, _ in plan.sights()})
    if len(waves) != 1 or not all([draws_by_number(hows) for _, _, hows in plan.waves()]):
        return False
    known = [waves[0], *plan.roots(waves[0])]
    return all([ends == "all" for _, _, ends in plan.sights()]) and all([name in known for name in plan.names()])


def count_difference(plan, wave):
    """The number of people in a wave less what it is on average."""
    count = plan_form(plan, ("sum", "i", ("wave", wave, "i")))
    return count - mean(plan, count)


def guess_through(plan, web, wave):
    """The guess of a web by what is seen through a wave only, None if that never shows it."""
    narrow = Plan(plan.world, plan.waves(), [row for row in plan.sights() if row[1] == wave])
    chance = sight(narrow, web)
    if chance == ZERO:
        return None
    return scaled(seen_web(narrow, web), over(ONE, chance))


def two_of(names):
    """All pairs of names, in their order."""
    return list(combinations(names, 2))


def all_differences(plan, target):
    """Generates forms that are 0 on average, so that they can be added to each right guess."""
    names = plan.names()
    for wave in names:
        yield count_difference(plan, wave)
    webs = [web for web, _ in target.terms() if web[0] != ()]
    for web in webs[:1]:
        for wave, other_wave in two_of(names):
            one = guess_through(plan, web, wave)
            other = guess_through(plan, web, other_wave)
            if one is not None and other is not None:
                yield one - other


def only_guess(plan, target):
    """A One, an Another or an Unsaid with the guess for a target."""
    form = estimate_form(plan, target)
    if is_steady(plan):
        return One(plan, target, form)
    for difference in all_differences(plan, target):
        # The average of a difference is 0, so that its spread is the average of its squares.
        if spread(plan, difference):
            return Another(plan, target, form, form + difference)
    return Unsaid(plan, target, form)
