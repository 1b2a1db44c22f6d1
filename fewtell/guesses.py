"""Guesses: what is told of a population by what a drawing shows, and what it tells on average."""

from fewtell.errors import InvalidWeb, UnlikeWorlds, Unseen
from fewtell.forms import check_plain, form_of_program, form_of_rows
from fewtell.programs import check_program
from fewtell.ratios import times
from fewtell.seats import taken_out


def plan_form(plan, program):
    """The form of a program with the waves of a plan."""
    check_program(plan.world, program, waves=tuple(plan.names()))
    rows = []
    for (people, wishes, entries), factor in form_of_program(plan.world, program).terms():
        rows.append(((people, tuple([plan.least(names) for names in wishes]), entries), factor))
    return form_of_rows(plan.world, rows)


def guess(plan, program):
    """The form of a program whose entries are all sure to be seen."""
    form = plan_form(plan, program)
    for web, _ in form.terms():
        if not is_sure(plan, web):
            raise Unseen(web)
    return form


def is_sure(plan, web):
    """Whether the wishes of a web make sure that each of its entries is seen."""
    people, wishes, entries = web
    waves = [plan.all_wished(names) for names in wishes]
    return all([is_seen(plan, name, [waves[at] for at in positions]) for name, positions in entries])


def is_seen(plan, trait, waves):
    """Whether an entry of a trait is seen if its people are in these waves."""
    for name, wave, ends in plan.sights():
        if name == trait:
            hits = [wave in row for row in waves]
            if (ends == "all" and all(hits)) or (ends == "any" and any(hits)) or (ends == "first" and hits[0]):
                return True
    return False


def check_form(plan, form):
    """Raises an error for a form of another world, or that wishes an unknown wave."""
    if form.world != plan.world:
        raise UnlikeWorlds()
    names = plan.names()
    for web, _ in form.terms():
        if not all([name in names for wishes in web[1] for name in wishes]):
            raise InvalidWeb(web)


def check_target(plan, target):
    """Raises an error for a target of another world, or with wishes."""
    if target.world != plan.world:
        raise UnlikeWorlds()
    check_plain(target)


def is_guess(plan, form):
    """Whether a form is a guess of a plan."""
    check_form(plan, form)
    return all([is_sure(plan, web) for web, _ in form.terms()])


def averaged(plan, form, given):
    """The form with the averages over the drawings of all waves but those that are given."""
    drawn = [name for name in plan.names() if name not in given]
    rows = []
    for web, factor in form.terms():
        people, wishes, entries = web
        kept = [plan.least(tuple([name for name in plan.all_wished(names) if name in given])) for names in wishes]
        left, count = taken_out(plan.world, (people, tuple(kept), entries))
        rows.append((left, times(times(factor, plan.chance_among(web, drawn)), (count, 1))))
    return form_of_rows(plan.world, rows)


def mean(plan, form):
    """The form without wishes that has the average of the numbers of a form over all drawings."""
    check_form(plan, form)
    return averaged(plan, form, [])


def mean_given(plan, form, wave):
    """The form that has the average of the numbers of a form over all drawings with the same wave and its roots."""
    check_form(plan, form)
    return averaged(plan, form, [wave, *plan.roots(wave)])


def is_right(plan, form, target):
    """Whether a form is a guess whose mean is a target."""
    check_form(plan, form)
    check_target(plan, target)
    return is_guess(plan, form) and mean(plan, form) == target
