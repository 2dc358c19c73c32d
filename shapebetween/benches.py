"""Benches: stores by their names, with a journal of deeds, and drafts."""

from shapebetween.errors import DraftRunning, InvalidDeed, InvalidText, Missing, NameTaken, NoDraft, NothingLeft
from shapebetween.errors import Refused, ShapeError, UnknownName
from shapebetween.limits import check_limit
from shapebetween.lots import is_name, keys_of_words
from shapebetween.rows import Row
from shapebetween.stores import Store

NEW = "new"
DROP = "drop"
TWIN = "twin"
ROW = "row"


class Bench:
    """Stores, the deeds that made them as they are, and the deeds that can be redone.

    Each deed is kept in a pair with the dict from the names to the stores behind it. These dicts and
    the stores in them never change: so undo, redo and cancel only choose among them.
    """

    def __init__(self):
        self._done = ()
        self._undone = ()
        self._draft = None

    @property
    def drafting(self):
        """Whether there is a draft."""
        return self._draft is not None

    def do(self, deed):
        """Do a deed."""
        parts = deed_parts(deed)
        if parts is None:
            raise InvalidDeed(0)
        check_limit("deeds", len(self._done) + 1)
        self._done = (*self._done, (deed, stores_behind(self._stores(), parts)))
        self._undone = ()

    def undo(self):
        """Take the last deed back."""
        if len(self._done) <= self._undo_stop():
            raise NothingLeft()
        self._undone = (*self._undone, self._done[-1])
        self._done = self._done[:-1]

    def redo(self):
        """Do the deed again that was taken back last."""
        if not self._undone:
            raise NothingLeft()
        self._done = (*self._done, self._undone[-1])
        self._undone = self._undone[:-1]

    def play(self, deeds):
        """Do all deeds of a list, or none."""
        if not isinstance(deeds, (list, tuple)):
            raise InvalidDeed(-1)
        trial = self.twin()
        for at, deed in enumerate(deeds):
            try:
                trial.do(deed)
            except (ShapeError, Missing) as error:
                raise Refused(at, error.code)
        self._done = trial._done
        self._undone = trial._undone

    def begin(self):
        """Begin a draft."""
        if self.drafting:
            raise DraftRunning()
        self._draft = (self._done, self._undone)

    def keep(self):
        """End the draft and leave everything as it is."""
        self._check_drafting()
        self._draft = None

    def cancel(self):
        """End the draft and bring everything back as it was when the draft began."""
        self._check_drafting()
        self._done, self._undone = self._draft
        self._draft = None

    def names(self):
        """The ascending list of the names of the stores."""
        return sorted(list(self._stores()))

    def store(self, name):
        """A store of its own, as the one with this name is now."""
        check_known(self._stores(), name)
        return self._stores()[name].twin()

    def journal(self):
        """The list of the deeds that have been done and not undone."""
        return [deed for deed, _ in self._done]

    def report(self):
        """The list of a line for each store, ascending by names."""
        stores = self._stores()
        return [report_line(name, stores[name]) for name in self.names()]

    def twin(self):
        """A bench of its own that is as this one is now."""
        other = Bench()
        other._done = self._done
        other._undone = self._undone
        other._draft = self._draft
        return other

    def _stores(self):
        """The dict from the names to the stores, which the caller must not change."""
        return self._done[-1][1] if self._done else {}

    def _undo_stop(self):
        """The length of the journal at which undo is refused."""
        return len(self._draft[0]) if self.drafting else 0

    def _check_drafting(self):
        if not self.drafting:
            raise NoDraft()

    def __contains__(self, name):
        return is_name(name) and name in self._stores()

    def __len__(self):
        return len(self._stores())

    def __bool__(self):
        return True

    def __repr__(self):
        return f"Bench({len(self._stores())} stores)"


def deed_parts(value):
    """The triple of the word, the name and what stands behind it in a deed, None for any value that is none.

    Behind the name of a new store stands its key set, of one that is dropped the empty string,
    of one that gets a twin the other name, and of one to which a row is applied the Row.
    """
    if not isinstance(value, str):
        return None
    word, _, rest = value.partition(" ")
    name, sign, behind = rest.partition(" ")
    told = behind_name(word, sign + behind)
    return None if told is None or not is_name(name) else (word, name, told)


def behind_name(word, text):
    """What the text behind the name of a deed with this word tells, None if it cannot stand there.

    The text is empty, or begins with the space behind the name.
    """
    if word == DROP:
        return text if text == "" else None
    if word == NEW:
        return keys_of_words(text[1:].split(" ")) if text else ()
    if word == TWIN:
        return text[1:] if is_name(text[1:]) else None
    return read_row(text[1:]) if word == ROW else None


def read_row(text):
    """The row with this text, None if there is none."""
    try:
        return Row.read(text)
    except InvalidText:
        return None


def stores_behind(stores, parts):
    """The dict from the names to the stores behind a deed."""
    word, name, told = parts
    if word == NEW:
        check_free(stores, name)
        return {**stores, name: Store(told)}
    check_known(stores, name)
    if word == TWIN:
        check_free(stores, told)
        return {**stores, told: stores[name]}
    if word == DROP:
        return {other: stores[other] for other in stores if other != name}
    grown = stores[name].twin()
    grown.apply(told)
    return {**stores, name: grown}


def check_known(stores, name):
    """Raise UnknownName for any value that is no name of a store."""
    if not is_name(name) or name not in stores:
        raise UnknownName(name)


def check_free(stores, name):
    """Raise NameTaken or TooMany if there cannot be one more store, with this name."""
    if name in stores:
        raise NameTaken(name)
    check_limit("names", len(stores) + 1)


def report_line(name, store):
    """The line of a store in the report."""
    return f"{name:<12} {len(store):>3} {store.next_count:>5} {store.tree.text()}"
