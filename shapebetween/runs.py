"""Runs of a script: counted, ordered and numbered, all of them or those that follow told shapes."""

from shapebetween.errors import InvalidWord, Stuck
from shapebetween.faultwords import BEGIN, FORM, STEP
from shapebetween.follow import future_ahead_of_row
from shapebetween.limits import check_end
from shapebetween.lots import check_same_keys
from shapebetween.resolving import resolves, resolving_table
from shapebetween.shapes import Shape
from shapebetween.steps import arranged_by, is_step, step
from shapebetween.weaktrees import WeakTree, unmet_need


class Runs:
    """The runs of a script that follow told shapes, told by a dict from moments; it never changes."""

    def __init__(self, script, *, told=None):
        self._told = {} if told is None else dict(told)
        check_told(script, self._told)
        self._tables = choice_tables(script, self._told)
        self.script = script
        self.total = count_runs(self._tables)

    def choices(self):
        """The list of the numbers of choices, that of the begin first; empty if there is no run."""
        return [table.total for table in self._tables]

    def run_at(self, number):
        """The run with a number, a list of shapes."""
        check_end(number, self.total)
        orders = []
        rest = number
        # The last choice changes first from one run to the next, as the last digit does.
        for table in self._tables[::-1]:
            rest, digit = divmod(rest, table.total)
            orders.append(table.order_at(digit))
        begin, *others = orders[::-1]
        shapes = [Shape(*begin)]
        for row, order in zip(self.script.rows(), others):
            shapes.append(step(shapes[-1], row, Shape(*order)))
        return shapes

    def run_number(self, shapes):
        """The number of a run."""
        fault = run_fault(self.script, shapes)
        if fault is not None:
            raise InvalidWord(fault)
        check_follows(self._told, shapes)
        chosen = [shapes[0]]
        for row, later in zip(self.script.rows(), shapes[1:]):
            chosen.append(arranged_by(later, row))
        number = 0
        for table, shape in zip(self._tables, chosen):
            number = number * table.total + table.number_of_order(shape.order())
        return number

    def walk_all(self):
        """Generate the runs, in order."""
        for number in range(self.total):
            yield self.run_at(number)

    def __len__(self):
        return len(self.script)

    def __bool__(self):
        return bool(self.total > 0)

    def __repr__(self):
        return f"Runs({self.total} runs)"


def run_fault(script, shapes):
    """The fault of any value as the shapes of a run of the script, None if it is a run."""
    if not isinstance(shapes, (list, tuple)) or len(shapes) != len(script) + 1:
        return FORM
    if not all([isinstance(shape, Shape) for shape in shapes]):
        return FORM
    if shapes[0].living != script.living:
        return BEGIN
    for at, row in enumerate(script.rows()):
        if not is_step(shapes[at], row, shapes[at + 1]):
            return STEP
    return None


def check_told(script, told):
    """Raise PastEnd or OtherKeys for a moment or a shape that cannot be told of the script."""
    for moment in sorted(told):
        check_end(moment, len(script) + 1)
    for moment in sorted(told):
        check_same_keys(told[moment].living, script.living_at(moment))


def check_follows(told, shapes):
    """Raise Stuck with the first moment at which a run has another shape than the told one."""
    for moment in sorted(told):
        here = shapes[moment]
        wanted = told[moment]
        for key in wanted.living:
            if here.path(key) != wanted.path(key):
                raise Stuck(moment, key)


def choice_tables(script, told):
    """The tables of the choices, that of the begin first; an empty list if there is no run."""
    tree = told_tree(WeakTree.level(script.end), told, len(script))
    tables = []
    for moment in reversed(range(len(script))):
        row = script[moment]
        if tree is None or unmet_need(tree, row.lot_after()) is not None:
            return []
        tables.append(resolving_table(tree.kept(row.lot_after())))
        tree = told_tree(future_ahead_of_row(row, tree), told, moment)
    if tree is None:
        return []
    tables.append(resolving_table(tree))
    return tables[::-1]


def told_tree(tree, told, moment):
    """The weak tree of the shape that is told of a moment, or tree itself; None if the shape does not resolve it."""
    if moment not in told:
        return tree
    return WeakTree.of_shape(told[moment]) if resolves(tree, told[moment]) else None


def count_runs(tables):
    """The product of all choices, 0 if there is no run."""
    count = 1 if tables else 0
    for table in tables:
        count = count * table.total
    return count
