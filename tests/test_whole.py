"""What the document promises over the whole program: [1], [2] and [3]."""

import random

from shapebetween.badwalks import is_safe
from shapebetween.benches import Bench
from shapebetween.closed import closed_at, closed_lots
from shapebetween.errors import Barred, PastEnd, TooMany
from shapebetween.forms import Form
from shapebetween.gates import gates_of, lower_bound
from shapebetween.lazy import holds, last_touches, lazy_script, leaning
from shapebetween.lookers import Looker
from shapebetween.meeting import Meeting
from shapebetween.mending import mended
from shapebetween.pricepapers import price_paper
from shapebetween.prices import box_cells, cheapest, price
from shapebetween.programs import Program
from shapebetween.recipes import Recipe
from shapebetween.resolving import resolving_at
from shapebetween.runs import Runs
from shapebetween.scripts import Script
from shapebetween.shapenumbers import shape_at
from shapebetween.standings import standings
from shapebetween.stores import Store
from shapebetween.surroundings import fits_between
from shapebetween.tables import least_table, table_fault, waiting
from shapebetween.tornlogs import TornLog, torn_from
from shapebetween.tornpapers import torn_fault, torn_paper
from shapebetween.treenumbers import tree_at
from shapebetween.turning import Soonest
from shapebetween.playing import plays
from shapebetween.twoends import TwoEnds
from shapebetween.views import (backward, cut_keys, cut_moments, exchanged, keys_merged, mirrored, moments_merged,
                                walled)
from shapebetween.weaktrees import WeakTree
from shapebetween.weaving import weaving_at, weaving_count, weavings, woven
from tests.drawn import drawn_script, plain_crosswise
from tests.plain import PlainCase


def put_all(put, rows):
    """Whether all rows can be put, one by one."""
    try:
        for row in rows:
            put(row)
    except Barred:
        return False
    return True


def chain_program(script):
    """The program with one walk through all rows."""
    names = [f"n{at}" for at in range(len(script) + 1)]
    return Program(script.living, names, [(names[at], names[at + 1], row.lot) for at, row in enumerate(script)])


def roads(script):
    """What each part of the package says of the feasibility of a script without marks."""
    rows, living = script.rows(), script.living
    lots = [row.lot for row in rows]
    half = len(rows) // 2
    first, second = Script(living, rows[:half]), Script(living, rows[half:])
    program = chain_program(script)
    bench = Bench()
    bench.do(" ".join(["new", "a", *map(str, living)]))
    log = torn_from(script, [])
    whole = tuple(living)
    torn = torn_from(script, [(0, key) for key in living])
    return {
        "script": script.feasible,
        "crosswise": script.first_crosswise() is None,
        "told": Script.read(script.text()).feasible,
        "store": put_all(Store(living).apply, rows),
        "last": put_all(TwoEnds(living).put_last, rows),
        "first": put_all(TwoEnds(living).put_first, rows[::-1]),
        "bench": put_all(bench.do, [f"row a {row.text()}" for row in rows]),
        "joined": first.feasible and second.feasible and Meeting(first.past, second.future).meets,
        "runs": bool(Runs(script)),
        "run": Runs(script).total > 0,
        "form": Form(script).feasible,
        "forms": sum([Form(Script(living, [lot])) for lot in lots], Form(Script(living))) == Form(script)
        and (Form(first) + Form(second)).feasible,
        "between": first.feasible and fits_between(first.past, Form(second), WeakTree.level(living)),
        "recipe": Recipe(living, [("a", lots[:5]), ("b", [("a", 1), *lots[5:]])]).form("b").feasible,
        "program": is_safe(program),
        "table": table_fault(program, (tuple(sorted(program.nodes())), tuple(waiting(program)))) is None,
        "standings": len(standings(program)) == len(program),
        "mended": [edge[2] for edge in mended(program)[0].edges()] == lots,
        "walk": program.script_of(list(range(len(rows)))).feasible,
        "woven": is_safe(woven(script)),
        "log": log.can_be(),
        "count": log.filling_count() == 1,
        "filling": log.is_filling(script),
        "torn": torn.is_filling(script) and script in list(torn.fillings()),
        "price": price(script, most=0) == 0,
        "cheapest": cheapest(script, most=2) == script,
        "lazy": lazy_script(script) == script,
        "sides": lazy_script(script, side="rising") == lazy_script(script, side="falling") == script,
        "leaning": leaning(script) == (0, 0),
        "exchanged": exchanged(Script(living, [whole, *lots])).feasible,
        "backward": backward(script).feasible,
        "mirrored": mirrored(script).feasible,
        "walled": walled(script, Script(()), 999).feasible,
        "plays": any(plays(script, shape_at(living, number), Soonest()) for number in range(5)),
        "paper": Looker().look(("torn", log, torn_paper(log) if not log.can_be() else ())) == "root",
    }


class TestOneScriptByAllRoads(PlainCase):
    def test_all_or_none(self):
        draw, seen = random.Random(1), {True: 0, False: 0}
        for at in range(160):
            script = drawn_script(draw, (1, 3, 5), draw.randrange(1, 7), marks=False)
            wanted = not plain_crosswise(script.living, script.rows())
            told = roads(script)
            self.assertEqual({road: said for road, said in told.items() if said is not wanted}, {}, script.text())
            seen[wanted] += 1
        self.assertGreater(min(seen.values()), 40)


class TestWhatIsPassedAndTold(PlainCase):
    def test_calls_change_nothing(self):
        script = Script((1, 2, 3), [(2,), (1,), (3,)])
        text = script.text()
        program = chain_program(script)
        edges = program.edges()
        log = TornLog((1, 2, 3), ["#??", "..#"])
        cells = [(0, 1), (0, 1), (2, 3)]
        for call in (
                lambda: lazy_script(script), lambda: holds(script, script), lambda: last_touches(script),
                lambda: gates_of(script), lambda: lower_bound(script), lambda: price(script), lambda: cheapest(script),
                lambda: price_paper(script, 1), lambda: box_cells(script, (0, 1, 2, 1)), lambda: list(weavings(script, script)),
                lambda: weaving_at(3, script, script), lambda: woven(script), lambda: weaving_count(script, script),
                lambda: backward(script), lambda: mirrored(script), lambda: cut_moments(script, 1, 2),
                lambda: cut_keys(script, 1, 2), lambda: exchanged(script), lambda: keys_merged(script, 1),
                lambda: moments_merged(script, 0), lambda: walled(script, Script(()), 4), lambda: torn_from(script, cells),
                lambda: mended(program), lambda: standings(program), lambda: waiting(program), lambda: is_safe(program),
                lambda: list(log.fillings()), lambda: log.sure_cells(), lambda: torn_fault(log, ())):
            call()
            self.assertEqual((script.text(), program.edges(), program, log.rows(), cells),
                             (text, edges, chain_program(script), ["#??", "..#"], [(0, 1), (0, 1), (2, 3)]))

    def test_lists_that_are_changed_later(self):
        lots, nodes, edges, signs = [(1,), (1, 2)], ["a", "b"], [("a", "b", (1,))], ["#?", "?#"]
        items = [(1,), (2,)]
        rules = [("a", items)]
        script, program, log = Script((1, 2), lots), Program((1, 2), nodes, edges), TornLog((1, 2), signs)
        recipe = Recipe((1, 2), rules)
        told = {0: shape_at((1, 2), 0)}
        runs = Runs(script, told=told)
        for passed in (lots, nodes, edges, signs, items, rules, told):
            passed.clear()
        self.assertEqual((len(script), len(program), len(program.edges()), log.rows()), (2, 2, 1, ["#?", "?#"]))
        self.assertEqual((recipe.rules(), runs.total), ([("a", ((1,), (2,)))], Runs(script, told={0: shape_at((1, 2), 0)}).total))
        for made in (script.rows(), program.nodes(), program.edges(), log.rows(), recipe.rules(), recipe.names(),
                     runs.choices(), standings(program), mended(program)[1], gates_of(script), log.unread_cells(),
                     log.sure_cells(), price_paper(Script((1, 2), [(1,), (2,)]), 0), waiting(program)):
            if isinstance(made, (list, dict)):
                made.clear()
        self.assertEqual((len(script), len(program), len(program.edges()), log.rows()), (2, 2, 1, ["#?", "?#"]))
        self.assertEqual((recipe.names(), recipe.rules()), (["a"], [("a", ((1,), (2,)))]))

    def test_kinds_of_values(self):
        program = Program((1, 2), ["a"], [("a", "a", (1, 2))])
        wishes = Script((1, 2), [(1,), (2,)])
        for made, kind in [
                (least_table(program), tuple), (least_table(program)[0], tuple), (least_table(program)[1], tuple),
                (waiting(program), list), (standings(program), list), (standings(program)[0], tuple), (mended(program), tuple),
                (mended(program)[1], list), (mended(program)[1][0], tuple), (weaving_count(wishes), int),
                (leaning(wishes), tuple), (gates_of(wishes), list), (gates_of(wishes)[0], tuple), (lower_bound(wishes), int),
                (price(wishes), int), (box_cells(wishes, (0, 1, 1, 2)), list), (box_cells(wishes, (0, 1, 1, 2))[0], tuple),
                (price_paper(wishes, 0), tuple), (price_paper(wishes, 0)[0], tuple), (price_paper(wishes, 0)[0][1], tuple),
                (TornLog((1,), ["#"]).rows(), list), (TornLog((1,), ["?"]).unread_cells(), list),
                (TornLog((1,), ["?"]).sure_cells(), dict), (TornLog((1,), ["?"]).filling_count(), int),
                (torn_paper(TornLog((1,), ["."])), tuple), (torn_paper(TornLog((1,), ["."]))[0], tuple),
                (Bench().names(), list), (Bench().journal(), list), (Bench().report(), list), (Looker().faults(), dict),
                (Looker().look_all(), list), (Looker().held, int), (Looker().refused, int), (Bench().drafting, bool)]:
            self.assertIs(type(made), kind)


class TestLimits(PlainCase):
    def test_what_the_package_makes_itself(self):
        calm = Script((1, 2), [(1, 2)] * 31)
        self.check_raises(TooMany("moments", 62), lambda: calm + calm)
        self.check_raises(TooMany("moments", 31 * 10 ** 20), lambda: calm * 10 ** 20)
        self.check_raises(TooMany("moments", 62), weaving_count, calm, calm)
        self.check_raises(TooMany("nodes", 32), woven, calm)
        self.check_raises(TooMany("keys", 31), exchanged, calm)
        self.check_raises(TooMany("keys", 13), walled, Script(tuple(range(6))), Script(tuple(range(7, 13))), 6)
        keys = tuple(range(12))
        loops = Program(keys, ["a"], [("a", "a", (key,)) for key in keys])
        self.check_raises(TooMany("nodes", 31), mended, loops)
        self.assertEqual(len(walled(Script(tuple(range(6))), Script(tuple(range(7, 12))), 6).living), 12)
        self.assertEqual(len(calm + Script((1, 2), [(1, 2)] * 29)), 60)

    def test_great_numbers(self):
        script = Script((1, 2), [(1, 2)] * 5)
        far = 10 ** 1499
        for call, count in [(lambda number: weaving_at(number, script, script), 252), (TornLog((1,), ["?"]).filling_at, 1),
                            (lambda number: tree_at((1, 2), number), 3), (lambda number: shape_at((1, 2), number), 2),
                            (lambda number: closed_at(script.past, number), 3), (Runs(script).run_at, 64),
                            (lambda number: resolving_at(script.past, number), 2), (script.living_at, 6),
                            (Meeting(script.past, script.future).common_at, 2), (lambda number: script[number], 5),
                            (lambda number: Recipe((1,), [("a", [(1,)])]).lot_at("a", number), 1),
                            (lambda number: cut_moments(script, number, 0), 6),
                            (lambda number: moments_merged(script, number), 4)]:
            for number in (far, -far, count, -1):
                self.check_raises(PastEnd(number, count), call, number)
            call(count - 1) if count != 6 else call(0)

    def test_generators_raise_when_the_first_item_is_requested(self):
        for made, error in [(weavings(*[Script((1,))] * 6), TooMany("scripts", 6)),
                            (weavings(Script((1,), [(1,)] * 31), Script((1,), [(1,)] * 30)), TooMany("moments", 61))]:
            self.check_raises(error, next, made)
        first, second = weavings(Script((1,), [(1,)])), closed_lots(WeakTree.level((1, 2)))
        self.assertEqual((next(first), next(second)), (Script((1,), [(1,)]), (1,)))


if __name__ == "__main__":
    import unittest
    unittest.main()
