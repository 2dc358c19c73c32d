"""Recipes: scripts told by rules that call earlier rules, as often as wanted."""

from shapebetween.errors import DuplicateName, InvalidItem, InvalidRule, InvalidText, UnknownName
from shapebetween.forms import Form
from shapebetween.limits import check_end, check_limit, is_number
from shapebetween.linetexts import lines_text, living_line, read_living, split_lines
from shapebetween.lots import check_all_live, check_living, is_lot, is_name
from shapebetween.recipetexts import read_rule, rule_line
from shapebetween.scripts import Script


class Recipe:
    """Living keys and a list of rules, each a name and a list of lots and calls; it never changes."""

    def __init__(self, living, rules=()):
        check_living(living)
        self._rules = tuple(checked_rules(living, rules))
        self._items = {name: items for name, items in self._rules}
        self._sizes = reckoned_sizes(self._rules)
        self._forms = {}
        self.living = living

    def rules(self):
        """The list of the rules, pairs of a name and a tuple of items."""
        return list(self._rules)

    def names(self):
        """The list of the names of the rules, in order."""
        return [name for name, _ in self._rules]

    def with_rule(self, name, items):
        """A new recipe in which the rule with this name has these items, or stands behind all others."""
        if name in self:
            changed = [(other, items if other == name else told) for other, told in self._rules]
        else:
            changed = [*self._rules, (name, items)]
        return Recipe(self.living, changed)

    def form(self, name):
        """The form of the script of a rule."""
        self._check_name(name)
        ends = self.names().index(name) + 1
        for known, items in self._rules[:ends]:
            if known not in self._forms:
                self._forms[known] = self._joined_form(items)
        return self._forms[name]

    def moments(self, name):
        """The number of rows of the script of a rule."""
        self._check_name(name)
        return self._sizes[name][0]

    def touches(self, name):
        """The number of touches of the script of a rule."""
        self._check_name(name)
        return self._sizes[name][1]

    def lot_at(self, name, moment):
        """The lot of a row of the script of a rule."""
        check_end(moment, self.moments(name))
        item, rest = self._item_at(name, moment)
        while not is_lot(item):
            called = item[0]
            item, rest = self._item_at(called, divmod(rest, self._sizes[called][0])[1])
        return item

    def written(self, name):
        """The script of a rule."""
        check_limit("moments", self.moments(name))
        return Script(self.living, self._written_lots(name))

    def text(self):
        """The line of the living keys, and a line for each rule."""
        return lines_text([living_line(self.living), *[rule_line(name, items) for name, items in self._rules]])

    @staticmethod
    def read(text):
        """The recipe with this text."""
        lines, rest = split_lines(text)
        living = read_living(lines)
        rules = [read_rule(line) for line in lines[1:]]
        for at, rule in enumerate(rules):
            if rule is None:
                raise InvalidText(at + 1)
        if rest != "":
            raise InvalidText(len(lines))
        return Recipe(living, rules)

    def _check_name(self, name):
        if name not in self:
            raise UnknownName(name)

    def _joined_form(self, items):
        form = Form(Script(self.living))
        for item in items:
            if is_lot(item):
                form = form + Form(Script(self.living, [item]))
            else:
                name, times = item
                form = form + self._forms[name] * times
        return form

    def _item_at(self, name, moment):
        """The pair of the item of a rule that holds a row, and of the index of this row among those of the item."""
        rest = moment
        at = 0
        while rest >= rows_of(self._sizes, self._items[name][at]):
            rest = rest - rows_of(self._sizes, self._items[name][at])
            at = at + 1
        return self._items[name][at], rest

    def _written_lots(self, name):
        found = []
        for item in self._items[name]:
            if is_lot(item):
                found = found + [item]
            elif rows_of(self._sizes, item) > 0:
                found = found + self._written_lots(item[0]) * item[1]
        return found

    def __contains__(self, name):
        return is_name(name) and name in self._items

    def __str__(self):
        return f"{self.text()}"

    def __repr__(self):
        return f"Recipe({len(self._rules)} rules)"

    def __len__(self):
        return len(self._rules)

    def __bool__(self):
        return True

    def __eq__(self, other):
        return isinstance(other, Recipe) and self.living == other.living and self._rules == other._rules


def checked_rules(living, rules):
    """The list of the rules with tuples as their items, if they can be the rules of a recipe."""
    if not isinstance(rules, (list, tuple)):
        raise InvalidRule(-1)
    check_limit("rules", len(rules))
    found = []
    for at, rule in enumerate(rules):
        if not is_rule(rule):
            raise InvalidRule(at)
        name, items = rule
        earlier = [known for known, _ in found]
        if name in earlier:
            raise DuplicateName(name)
        check_limit("items", len(items))
        for index, item in enumerate(items):
            if not is_lot(item) and not is_call(item):
                raise InvalidItem(at, index)
            check_item(living, earlier, item)
        found.append((name, tuple(items)))
    return found


def is_rule(value):
    """Whether any value is a pair of a name and a list or tuple."""
    if not isinstance(value, tuple) or len(value) != 2:
        return False
    return is_name(value[0]) and isinstance(value[1], (list, tuple))


def is_call(value):
    """Whether any value is a pair of a name and a number from 0 on."""
    if not isinstance(value, tuple) or len(value) != 2:
        return False
    return is_name(value[0]) and is_number(value[1]) and value[1] >= 0


def check_item(living, earlier, item):
    """Raise UnknownKey, UnknownName or TooMany for a lot or a call that cannot stand in the rule."""
    if is_lot(item):
        check_all_live(living, item)
        return
    name, times = item
    if name not in earlier:
        raise UnknownName(name)
    check_limit("digits", len(str(times)))


def reckoned_sizes(rules):
    """The dict from each name to the pair of the numbers of rows and of touches of its rule."""
    sizes = {}
    for name, items in rules:
        rows = sum([rows_of(sizes, item) for item in items])
        touches = sum([touches_of(sizes, item) for item in items])
        sizes[name] = (rows, touches)
    return sizes


def rows_of(sizes, item):
    """The number of rows that an item stands for."""
    return 1 if is_lot(item) else sizes[item[0]][0] * item[1]


def touches_of(sizes, item):
    """The number of touches that an item stands for."""
    return len(item) if is_lot(item) else sizes[item[0]][1] * item[1]
