"""Stores: the past of a feasible script that grows row by row."""

from shapebetween.closed import closed_count
from shapebetween.errors import InvalidLot
from shapebetween.follow import can_follow, least_coming, least_going, least_touching, past_behind_row
from shapebetween.lots import check_distinct_keys, lives_in
from shapebetween.rows import Row, as_row
from shapebetween.weaktrees import WeakTree


class Store:
    """Living keys and the past tree of the rows that were applied."""

    def __init__(self, living=()):
        self._past = WeakTree.level(living)
        self._begun = living
        self._applied = []

    @property
    def tree(self):
        """The past tree."""
        return self._past

    @property
    def present(self):
        """The key set of the living keys."""
        return self._past.living

    @property
    def next_count(self):
        """The number of rows without marks that can follow."""
        return closed_count(self._past)

    @property
    def age(self):
        """The number of rows that were applied."""
        return len(self._applied)

    def apply(self, row):
        """Apply a row that can follow."""
        taken = as_row(row)
        self._past = past_behind_row(self._past, taken)
        self._applied.append(taken)

    def touch(self, *touched):
        """Apply the row with these keys, in any order, and without marks."""
        check_distinct_keys(touched)
        if not touched:
            raise InvalidLot(())
        self.apply(tuple(sorted(touched)))

    def come(self, key, *others):
        """Apply the row with all these keys, of which the first one comes."""
        check_distinct_keys((key, *others))
        self.apply(Row(tuple(sorted((key, *others))), coming=key))

    def go(self, key, *others):
        """Apply the row with all these keys, of which the first one goes."""
        check_distinct_keys((key, *others))
        self.apply(Row(tuple(sorted((key, *others))), going=key))

    def can(self, row):
        """Whether any value is a row that can be applied."""
        return can_follow(self._past, row)

    def least_touch(self, lot):
        """The least row for a lot of living keys."""
        return least_touching(self._past, lot)

    def least_come(self, key):
        """The least row by which a key can come."""
        return least_coming(self._past, key)

    def least_go(self, key):
        """The least row by which a living key can go."""
        return least_going(self._past, key)

    def past_rows(self):
        """The list of the rows that were applied."""
        return list(self._applied)

    def twin(self):
        """A store of its own with the same past."""
        other = Store(self._begun)
        other._past = self._past
        other._applied = list(self._applied)
        return other

    def begun_with(self):
        """The keys that lived at the begin."""
        return self._begun

    def __contains__(self, key):
        return lives_in(self._past.living, key)

    def __len__(self):
        return len(self._past.living)

    def __bool__(self):
        return True

    def __repr__(self):
        return f"Store({self._past.text()})"
