"""What a form leaves of the past ahead of it and of the future behind it."""

from shapebetween.errors import InvalidWord
from shapebetween.forms import laid_over
from shapebetween.lots import check_same_keys
from shapebetween.parting import parting_lot
from shapebetween.scripts import Script
from shapebetween.sharedtops import trees_meet


def past_behind(past, form):
    """The past tree behind a script with this past tree and a script of this form."""
    check_same_keys(past.living, form.living)
    check_feasible(form)
    return laid_over(form.past, past, form.idle)


def future_ahead(form, future):
    """The future tree ahead of a script of this form and a script with this future tree."""
    check_same_keys(form.living, future.living)
    check_feasible(form)
    return laid_over(form.future, future, form.idle)


def fits_between(past, form, future):
    """Whether a script of this form can stand between this past tree and this future tree."""
    check_same_keys(past.living, form.living)
    check_same_keys(form.living, future.living)
    if not form.feasible or not trees_meet(past, form.future):
        return False
    return trees_meet(past_behind(past, form), future)


def parting_surroundings(one, other):
    """The pair of the scripts ahead and behind between which one of two forms fits, None if they are equal."""
    check_same_keys(one.living, other.living)
    if one == other:
        return None
    empty = Script(one.living)
    if one.feasible != other.feasible:
        return empty, empty
    if one.past != other.past:
        return empty, Script(one.living, [parting_lot(one.past, other.past)])
    if one.future != other.future:
        return Script(one.living, [parting_lot(one.future, other.future)]), empty
    lesser, greater = parting_neighbours(one, other)
    return all_but(one.living, greater), all_but(one.living, lesser)


def check_feasible(form):
    """Raise InvalidWord for the form of scripts that are not feasible."""
    if not form.feasible:
        raise InvalidWord("not feasible")


def parting_neighbours(one, other):
    """The first two neighbours that lie in an idle stretch of exactly one of two forms."""
    pairs = list(zip(one.living, one.living[1:]))
    return [pair for pair in pairs if one.is_idle(pair[0], pair[1]) != other.is_idle(pair[0], pair[1])][0]


def all_but(living, missing):
    """The script of one row with all keys but one."""
    return Script(living, [tuple([key for key in living if key != missing])])
