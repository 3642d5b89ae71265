"""The course of a play: what the deeds done so far have made, deed by deed."""

from sharedscopes.deeds import ROOT, does_hold, thing_of, under_of
from sharedscopes.marks import living

_FILLED = {"wish": "let", "point": "use", "set": "number"}


class Course:
    """What is there behind the deeds done so far, and the rows of their play."""

    def __init__(self):
        self.rows = []
        self.kinds = {ROOT: "block"}
        self.contents = {ROOT: None}
        self.places = {ROOT: None}
        self.placers = {ROOT: None}

    def run(self, deed):
        """Do an ordinary deed, the next one by stamps."""
        stamp, _, body = deed
        chain = ()
        if self.is_gone(body):
            outcome = "gone"
        elif body[0] == "move":
            outcome, chain = self._move(stamp, body)
        else:
            outcome = "done"
            self._write(stamp, body)
        self.rows.append((stamp, outcome, chain))

    def is_gone(self, body):
        """Whether an ordinary deed of this body does not find what it names, or not as it needs it."""
        named = [name for name in (thing_of(body), under_of(body)) if name is not None]
        return self.misfits(body) or not all([name in self.kinds for name in named])

    def misfits(self, body):
        """Whether something that is there has not the kind that an ordinary deed of this body needs."""
        thing = thing_of(body)
        under = under_of(body)
        if under in self.kinds and not does_hold(self.kinds[under]):
            return True
        if body[0] in _FILLED:
            return thing in self.kinds and self.kinds[thing] != _FILLED[body[0]]
        return thing == ROOT

    def _move(self, stamp, body):
        """The outcome and the chain of a move that finds what it needs."""
        _, thing, under, key = body
        chain = self._chain(thing, under)
        if chain and chain[-1] == (thing, None):
            return "ring", chain
        self._put(thing, (under, key, stamp), stamp)
        return "done", chain

    def _chain(self, thing, under):
        """The pairs of things and placing deeds from under on up, to the thing itself if it is come to."""
        rows = []
        at = under
        while at != ROOT and at != thing:
            rows.append((at, self.placers[at]))
            if self.places[at] is None:
                return tuple(rows)
            at = self.places[at][0]
        if at == thing:
            rows.append((thing, None))
        return tuple(rows)

    def _write(self, stamp, body):
        """Do what a body that finds what it needs says, but a move."""
        if body[0] == "make":
            _, kind, under, key, content = body
            self.kinds[stamp] = kind
            self.contents[stamp] = content
            self._put(stamp, (under, key, stamp), stamp)
        elif body[0] == "drop":
            self._put(body[1], None, stamp)
        else:
            self.contents[body[1]] = body[2]

    def _put(self, thing, place, stamp):
        self.places[thing] = place
        self.placers[thing] = stamp


def course_of(book, without):
    """The course of the book's play, as if the deeds of these stamps were not there."""
    return course_by(book, living(book, without))


def course_by(book, stamps):
    """The course in which just these ordinary deeds are done, in the order in which they are told."""
    course = Course()
    for stamp in stamps:
        course.run(book[stamp])
    return course
