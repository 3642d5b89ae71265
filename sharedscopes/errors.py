"""The errors of the package: each is one kind of refusal, and keeps what is told of it."""


class ScopeError(ValueError):
    """A refusal: told is what was refused, or where."""

    def __init__(self, told):
        self.told = told


class NoDeed(ScopeError):
    """What was handed in is no deed."""


class NoBook(ScopeError):
    """No book: None for no list or tuple, the index of a deed that cannot stand, or what is no Book."""


class NotClosed(ScopeError):
    """The stamp of a deed that has not seen what a deed that it has seen had seen."""


class Unseen(ScopeError):
    """The stamp of a deed whose body names what it has not seen."""


class NoBody(ScopeError):
    """No body: None for no list or tuple, the index of one that cannot stand, or what is no body."""


class NoStamp(ScopeError):
    """What was handed in is no stamp that may be asked here."""


class NoStamps(ScopeError):
    """No stamps: None for no list or tuple, or the index of one that may not stand."""


class NoBranch(ScopeError):
    """What was handed in is no branch of the book."""


class NoHeads(ScopeError):
    """No heads: None for no list or tuple, or the index of one that may not stand."""


class NoHand(ScopeError):
    """What was handed in is no hand."""


class NoChange(ScopeError):
    """What was handed in is no change of the book."""


class NoState(ScopeError):
    """What was handed in is no state."""


class NoThing(ScopeError):
    """What was handed in is no thing that may be asked here."""


class NoThings(ScopeError):
    """No things: None for no list or tuple, or the index of one that may not stand."""


class NoSlot(ScopeError):
    """What was handed in is the slot of no deed of the book."""


class NoGap(ScopeError):
    """What was handed in is no gap of the thing."""


class NoIndex(ScopeError):
    """What was handed in is no index of the text."""


class NoWeights(ScopeError):
    """What was handed in is no dict of weights."""


class NoNaming(ScopeError):
    """What was handed in is no naming that may be asked here."""


class NoName(ScopeError):
    """What was handed in is no written name."""


class BadText(ScopeError):
    """How many signs the longest beginning has that is shared with some text."""


class NotVisible(ScopeError):
    """The index of a use that means no let."""


class NoTarget(ScopeError):
    """What was handed in is no target."""


class NoPairs(ScopeError):
    """No pairs: None for no list or tuple, or the index of one that may not stand."""


class HasCause(ScopeError):
    """The thing has a cause, so it has no value."""


class NoContents(ScopeError):
    """What was handed in is no polynomial, or gives it no contents."""


class NoMenu(ScopeError):
    """What was handed in is no menu."""


class NoPacket(ScopeError):
    """What was handed in is no packet on the way."""


class NothingBack(ScopeError):
    """The word of the mark that there is nothing for."""


class NoHands(ScopeError):
    """What was handed in is no Hands."""


class NoBranches(ScopeError):
    """No branches: None for no list or tuple of so many, or the index of one that is none."""


class BadRow(ScopeError):
    """The number of the first row that cannot stand, or None."""


class NoLine(ScopeError):
    """What was handed in is no line."""


class TooMany(OverflowError):
    """More than most, which is as many as there may be."""

    def __init__(self, most):
        self.most = most
