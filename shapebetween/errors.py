"""All errors of the package."""


class ShapeError(ValueError):
    """A value, a text or a call that the package refuses."""


class Missing(LookupError):
    """Something that is not there."""


class InvalidKey(ShapeError):
    """A value that must be a key is none."""
    def __init__(self, value):
        self.code = "InvalidKey"
        self.value = value


class DuplicateKey(ShapeError):
    """A key stands twice."""
    def __init__(self, key):
        self.code = "DuplicateKey"
        self.key = key


class InvalidLot(ShapeError):
    """A value that must be a lot or a key set is none."""
    def __init__(self, value):
        self.code = "InvalidLot"
        self.value = value


class InvalidMark(ShapeError):
    """A mark of a row is not allowed there."""
    def __init__(self, value):
        self.code = "InvalidMark"
        self.value = value


class InvalidRow(ShapeError):
    """The item with this index is no row."""
    def __init__(self, at):
        self.code = "InvalidRow"
        self.at = at


class InvalidText(ShapeError):
    """A text is not of its form from this index on."""
    def __init__(self, at):
        self.code = "InvalidText"
        self.at = at


class NotSearch(ShapeError):
    """A key in a text is not greater than the key before it."""
    def __init__(self, key):
        self.code = "NotSearch"
        self.key = key


class InvalidNumbers(ShapeError):
    """The item with this index is no number."""
    def __init__(self, at):
        self.code = "InvalidNumbers"
        self.at = at


class AlreadyLiving(ShapeError):
    """A key that should come lives."""
    def __init__(self, key):
        self.code = "AlreadyLiving"
        self.key = key


class NeighbourMissed(ShapeError):
    """A row marks a key and leaves a neighbour of it untouched."""
    def __init__(self, key, neighbour):
        self.code = "NeighbourMissed"
        self.key = key
        self.neighbour = neighbour


class TooMany(ShapeError):
    """A count is beyond the limit of its word."""
    def __init__(self, what, count):
        self.code = "TooMany"
        self.what = what
        self.count = count


class NotTop(ShapeError):
    """Keys are no top part of a shape."""
    def __init__(self, key):
        self.code = "NotTop"
        self.key = key


class OtherKeys(ShapeError):
    """Two key sets that should be equal differ in this key."""
    def __init__(self, key):
        self.code = "OtherKeys"
        self.key = key


class NotClosed(ShapeError):
    """A key set lacks a key that one of its keys needs."""
    def __init__(self, key, needed):
        self.code = "NotClosed"
        self.key = key
        self.needed = needed


class Barred(ShapeError):
    """A row that fits cannot follow a past tree."""
    def __init__(self, key, needed):
        self.code = "Barred"
        self.key = key
        self.needed = needed


class Unresolved(ShapeError):
    """A shape has a top of this stretch that is not allowed."""
    def __init__(self, first, last):
        self.code = "Unresolved"
        self.first = first
        self.last = last


class NotMeeting(ShapeError):
    """A past tree and a future tree do not meet."""
    def __init__(self, k, x):
        self.code = "NotMeeting"
        self.k = k
        self.x = x


class InvalidWord(ShapeError):
    """A value is none of the words that may stand here."""
    def __init__(self, value):
        self.code = "InvalidWord"
        self.value = value


class InvalidNumber(ShapeError):
    """A value is none of the numbers that may stand here."""
    def __init__(self, value):
        self.code = "InvalidNumber"
        self.value = value


class Infeasible(ShapeError):
    """A script has no run."""
    def __init__(self, i, j, k, x):
        self.code = "Infeasible"
        self.i = i
        self.j = j
        self.k = k
        self.x = x


class Stuck(ShapeError):
    """A run cannot go on at a moment, or not as told."""
    def __init__(self, moment, key):
        self.code = "Stuck"
        self.moment = moment
        self.key = key


class Comes(ShapeError):
    """A row has a mark where none may be."""
    def __init__(self, moment):
        self.code = "Comes"
        self.moment = moment


class InvalidRule(ShapeError):
    """The item with this index is no rule."""
    def __init__(self, at):
        self.code = "InvalidRule"
        self.at = at


class InvalidItem(ShapeError):
    """An item of a rule is neither a lot nor a call."""
    def __init__(self, at, item):
        self.code = "InvalidItem"
        self.at = at
        self.item = item


class InvalidName(ShapeError):
    """A value that must be a name is none."""
    def __init__(self, value):
        self.code = "InvalidName"
        self.value = value


class DuplicateName(ShapeError):
    """A name stands twice."""
    def __init__(self, name):
        self.code = "DuplicateName"
        self.name = name


class InvalidNodes(ShapeError):
    """The nodes of a program are no list, or there are none."""
    def __init__(self):
        self.code = "InvalidNodes"


class InvalidEdge(ShapeError):
    """The item with this index is no edge that can stand there."""
    def __init__(self, at):
        self.code = "InvalidEdge"
        self.at = at


class InvalidWalk(ShapeError):
    """The item with this index cannot stand in a walk."""
    def __init__(self, at):
        self.code = "InvalidWalk"
        self.at = at


class Unsafe(ShapeError):
    """A program has a walk whose script is not feasible."""
    def __init__(self, walk):
        self.code = "Unsafe"
        self.walk = walk


class InvalidWall(ShapeError):
    """A value is no key between two scripts."""
    def __init__(self, value):
        self.code = "InvalidWall"
        self.value = value


class Untouched(ShapeError):
    """A key is never touched."""
    def __init__(self, key):
        self.code = "Untouched"
        self.key = key


class Affordable(ShapeError):
    """Wishes can be held for the price that was denied."""
    def __init__(self, cells):
        self.code = "Affordable"
        self.cells = cells


class NoFilling(ShapeError):
    """A torn log has no filling."""
    def __init__(self):
        self.code = "NoFilling"


class HasFilling(ShapeError):
    """A torn log has a filling."""
    def __init__(self):
        self.code = "HasFilling"


class InvalidDeed(ShapeError):
    """The item with this index is no deed."""
    def __init__(self, at):
        self.code = "InvalidDeed"
        self.at = at


class NameTaken(ShapeError):
    """A store has this name already."""
    def __init__(self, name):
        self.code = "NameTaken"
        self.name = name


class Refused(ShapeError):
    """A deed of a list is refused."""
    def __init__(self, at, why):
        self.code = "Refused"
        self.at = at
        self.why = why


class DraftRunning(ShapeError):
    """A draft has begun already."""
    def __init__(self):
        self.code = "DraftRunning"


class NoDraft(ShapeError):
    """There is no draft."""
    def __init__(self):
        self.code = "NoDraft"


class UnknownKey(Missing):
    """A value is none of the keys that may stand here."""
    def __init__(self, key):
        self.code = "UnknownKey"
        self.key = key


class UnknownName(Missing):
    """A value is none of the names that may stand here."""
    def __init__(self, name):
        self.code = "UnknownName"
        self.name = name


class UnknownCell(Missing):
    """A value is no cell."""
    def __init__(self, value):
        self.code = "UnknownCell"
        self.value = value


class PastEnd(IndexError):
    """A value is no number from 0 to count - 1."""
    def __init__(self, number, count):
        self.code = "PastEnd"
        self.number = number
        self.count = count


class NothingLeft(IndexError):
    """There is nothing to take back, or to do again."""
    def __init__(self):
        self.code = "NothingLeft"
