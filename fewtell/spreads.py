"""How much guesses spread, and how far they are from their targets."""

from fewtell.guesses import averaged, check_form, check_target


def mean_square(plan, form):
    """The form that has the average of the squares of the numbers of a form over all drawings."""
    return averaged(plan, form * form, [])


def spread(plan, form):
    """The form that has the average of the squares of the numbers of a form less the square of their average."""
    check_form(plan, form)
    squares = mean_square(plan, form)
    average = averaged(plan, form, [])
    return squares - average * average


def error(plan, form, target):
    """The form that has the average of the squares of the differences between a form and a target."""
    check_form(plan, form)
    check_target(plan, target)
    return mean_square(plan, form - target)
