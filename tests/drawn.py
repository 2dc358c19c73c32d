"""Drawn rows and scripts, and the plain ways to what scripts are promised to say."""

from shapebetween.rows import Row
from shapebetween.scripts import Script
from shapebetween.shapes import Shape
from shapebetween.steps import step
from shapebetween.weaktrees import WeakTree
from tests.plain import shapes_on


def beside(living, key):
    """The one or two keys of living next to a key, or none."""
    return ([k for k in living if k < key][-1:]) + ([k for k in living if k > key][:1])


def plain_behind(living, row):
    return tuple(sorted((set(living) - {row.going}) | ({row.coming} - {None})))


def drawn_lot(draw, living, share=0.5):
    while True:
        lot = tuple(key for key in living if draw.random() < share)
        if lot:
            return lot


def drawn_row(draw, living, pool=9, most=5, marks=True):
    """A drawn row that fits, with a mark now and then."""
    kind = draw.random() if marks else 1
    if (kind < 0.25 and len(living) < most) or not living:
        key = draw.choice([key for key in range(pool) if key not in living])
        lot = set(beside(living, key)) | {key} | {k for k in living if draw.random() < 0.3}
        return Row(tuple(sorted(lot)), coming=key)
    if kind < 0.45:
        key = draw.choice(living)
        lot = set(beside(living, key)) | {key} | {k for k in living if draw.random() < 0.3}
        return Row(tuple(sorted(lot)), going=key)
    return Row(drawn_lot(draw, living))


def drawn_living(draw, most=4, pool=9):
    return tuple(sorted(draw.sample(range(pool), draw.randrange(most + 1))))


def drawn_script(draw, living, many, pool=9, most=5, marks=True):
    """A drawn script, feasible or not."""
    rows, at = [], living
    while len(rows) < many:
        if not at and not marks:
            break
        row = drawn_row(draw, at, pool, most, marks)
        rows.append(row)
        at = plain_behind(at, row)
    return Script(living, rows)


def feasible_script(draw, living, many, pool=9, most=5, marks=True):
    """A drawn feasible script: rows that cannot follow are drawn again."""
    script = Script(living)
    tries = 0
    while len(script) < many and tries < 50 * many + 50 and (marks or living):
        tries += 1
        longer = Script(living, [*script.rows(), drawn_row(draw, script.end, pool, most, marks)])
        script = longer if longer.feasible else script
    return script


def plain_lives(living, rows):
    """The key sets that live ahead of each row and at the end."""
    found = [living]
    for row in rows:
        found.append(plain_behind(found[-1], row))
    return found


def plain_crosswise(living, rows):
    """All crosswise tuples, as they are told, ordered by j, i, k, x."""
    lives = plain_lives(living, rows)

    def touched(moment, k, x):
        return [key for key in rows[moment].lot if min(k, x) <= key <= max(k, x)]

    return [(i, j, k, x) for j in range(len(rows)) for i in range(j) for k in lives[i + 1] for x in lives[i + 1]
            if k != x and touched(i, k, x) == [k] and touched(j, k, x) == [x]
            and not any(touched(m, k, x) for m in range(i + 1, j))]


def plain_past(living, rows):
    """The weak tree of the last touches, on the keys living at the end."""
    end = plain_lives(living, rows)[-1]
    lasts = {key: 1 + moment for moment, row in enumerate(rows) for key in row.lot}
    return WeakTree(end, [lasts.get(key, 0) for key in end])


def past_of_lots(living, lots):
    """The weak tree of the last touches of rows without marks."""
    return plain_past(living, [Row(lot) for lot in lots])


def plain_future(living, rows):
    """The weak tree of the first touches, on the keys living at the begin."""
    firsts = {key: -moment for moment, row in reversed(list(enumerate(rows))) for key in row.lot}
    return WeakTree(living, [firsts.get(key, -len(rows)) for key in living])


def plain_runs(living, rows):
    """All runs, ordered by the first shape, then by the shape of each lot after: lists of shapes."""
    runs = [[shape] for shape in shapes_on(living)]
    for row in rows:
        runs = [[*run, step(run[-1], row, arranged)] for run in runs if run[-1].is_top_part(row.lot_before())
                for arranged in shapes_on(row.lot_after())]
    return runs


def drawn_shape(draw, living):
    order = list(living)
    draw.shuffle(order)
    return Shape(*order)


def drawn_tree(draw, living):
    return WeakTree(living, [draw.randrange(max(1, len(living))) for _ in living])
