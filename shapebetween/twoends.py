"""Feasible scripts that grow at both ends."""

from shapebetween.errors import NotMeeting
from shapebetween.follow import can_be_ahead, can_follow, future_ahead_of_row, past_behind_row
from shapebetween.limits import check_limit, limit_of
from shapebetween.lots import check_same_keys
from shapebetween.rows import as_row
from shapebetween.scripts import Script
from shapebetween.sharedtops import crossing_pairs


class TwoEnds:
    """A feasible script to which rows are added behind and ahead of the others."""

    def __init__(self, living=()):
        self._whole = Script(living)

    @property
    def past_tree(self):
        """The past tree of the whole script."""
        return self._whole.past

    @property
    def future_tree(self):
        """The future tree of the whole script."""
        return self._whole.future

    @property
    def at_begin(self):
        """The keys living at the begin."""
        return self._whole.living

    @property
    def at_end(self):
        """The keys living at the end."""
        return self._whole.end

    def put_last(self, row):
        """Add a row behind the others."""
        taken = as_row(row)
        check_limit("moments", len(self._whole) + 1)
        past_behind_row(self._whole.past, taken)
        self._whole = Script(self._whole.living, self._whole.rows() + [taken])

    def put_first(self, row):
        """Add a row ahead of the others."""
        taken = as_row(row)
        check_limit("moments", len(self._whole) + 1)
        future = future_ahead_of_row(taken, self._whole.future)
        self._whole = Script(future.living, [taken] + self._whole.rows())

    def can_last(self, row):
        """Whether any value is a row that can be put last."""
        return self._has_room() and can_follow(self._whole.past, row)

    def can_first(self, row):
        """Whether any value is a row that can be put first."""
        return self._has_room() and can_be_ahead(row, self._whole.future)

    def joined(self, other):
        """A new two-ended script: this one with another one behind it."""
        check_same_keys(self._whole.end, other._whole.living)
        check_limit("moments", len(self._whole) + len(other._whole))
        crossing = crossing_pairs(self._whole.past, other._whole.future)
        if crossing:
            k, x = crossing[0]
            raise NotMeeting(k, x)
        both = TwoEnds(self._whole.living)
        both._whole = self._whole + other._whole
        return both

    def written_out(self):
        """The script."""
        return self._whole

    def _has_room(self):
        return len(self._whole) < limit_of("moments")

    def __len__(self):
        return len(self._whole)

    def __bool__(self):
        return True

    def __repr__(self):
        return f"TwoEnds({len(self._whole)} rows)"
