"""Forms: all that a script without marks asks of the scripts beside it."""

from shapebetween.limits import check_times
from shapebetween.lots import check_lives, check_same_keys
from shapebetween.scripts import Script, check_unmarked
from shapebetween.sharedtops import trees_meet
from shapebetween.weaktrees import WeakTree


class Form:
    """The past tree, the future tree and the idle stretches of a feasible script; it never changes."""

    def __init__(self, script):
        check_unmarked(script)
        self.living = script.living
        self.feasible = script.feasible
        self.past = script.past
        self.future = script.future
        self.idle = idle_stretches(script) if script.feasible else ()

    def is_idle(self, one, other):
        """Whether the stretch lies within an idle stretch."""
        check_lives(self.living, one)
        check_lives(self.living, other)
        return lies_within(self.idle, one, other)

    def __add__(self, other):
        if not isinstance(other, Form):
            return NotImplemented
        check_same_keys(self.living, other.living)
        if not self.feasible or not other.feasible or not trees_meet(self.past, other.future):
            return barred_form(self.living)
        past = laid_over(other.past, self.past, other.idle)
        future = laid_over(self.future, other.future, self.idle)
        return made_form(past, future, shared_idle(self.idle, other.idle))

    def __mul__(self, other):
        check_times(other)
        if other == 0:
            return Form(Script(self.living))
        if other == 1 or not self.feasible or trees_meet(self.past, self.future):
            return self
        return barred_form(self.living)

    def __rmul__(self, other):
        return self * other

    def __repr__(self):
        if not self.feasible:
            return "Form(not feasible)"
        return f"Form({self.past.text()} | {self.future.text()} | {stretches_text(self.idle)})"

    def __len__(self):
        return len(self.living)

    def __bool__(self):
        return True

    def __eq__(self, other):
        return (isinstance(other, Form) and self.living == other.living and self.feasible == other.feasible
                and self.past == other.past and self.future == other.future and self.idle == other.idle)


def idle_stretches(script):
    """The ascending tuple of the pairs of the first and the last key of each idle stretch."""
    touched = {}
    for row in script.rows():
        for key in row.lot:
            touched[key] = True
    found = []
    stretch = []
    for key in script.living:
        stretch = [] if key in touched else stretch + [key]
        if len(stretch) > 2:
            found = found[:-1]
        if len(stretch) > 1:
            found = found + [(stretch[0], stretch[-1])]
    return tuple(found)


def stretches_text(idle):
    """The pairs of the ends of the stretches, a sign alone if there is none."""
    return " ".join([f"{first}-{last}" for first, last in idle]) if idle else "."


def lies_within(idle, one, other):
    """Whether the keys from one to other, in either order, lie within one of the stretches."""
    return any([first <= min(one, other) and max(one, other) <= last for first, last in idle])


def shared_idle(one, other):
    """The stretches of at least two keys, as long as possible, within one of the first and one of the second."""
    # Stretches of one form are parted by keys, so no two of these can be joined to a longer one.
    pairs = [(max(low, first), min(high, last)) for low, high in one for first, last in other]
    return tuple(sorted([(first, last) for first, last in pairs if first < last]))


def laid_over(upper, lower, idle):
    """The weak tree that has the tops of upper, but within the idle stretches those of lower."""
    size = len(upper.living)
    numbers = []
    for at, key in enumerate(upper.living):
        # Levels are less than the number of keys, so those of lower part only what stands in one block of upper.
        inner = lower.levels()[at] if lies_within(idle, key, key) else 0
        numbers.append(-size * upper.levels()[at] - inner)
    return WeakTree(upper.living, numbers)


def made_form(past, future, idle):
    """The form of feasible scripts with these trees and idle stretches."""
    form = Form(Script(past.living))
    form.past = past
    form.future = future
    form.idle = idle
    return form


def barred_form(living):
    """The form of the scripts on these keys that are not feasible."""
    form = Form(Script(living))
    form.feasible = False
    form.past = None
    form.future = None
    form.idle = ()
    return form
