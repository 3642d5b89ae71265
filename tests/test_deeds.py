"""Point [1] and section deeds.py."""

from sharedscopes.deeds import ROOT, does_hold, is_body, is_deed, is_mark, is_name, is_stamp, named_by, time_seen
from sharedscopes.errors import NoDeed, NoHand
from tests.samples import NOTHING, STRANGE, Case, deed

BODIES = (
    ("make", "block", ROOT, 0, None), ("make", "let", (1, 0), 999, "x"), ("make", "let", ROOT, 5, "abcd"),
    ("make", "sum", (999, 3), 1, None), ("make", "product", ROOT, 0, None), ("make", "use", ROOT, 0, None),
    ("make", "use", (1, 0), 0, (2, 0)), ("make", "use", ROOT, 0, ROOT), ("make", "number", ROOT, 0, 0),
    ("make", "number", ROOT, 0, 99), ("move", (1, 0), (2, 0), 0), ("move", ROOT, ROOT, 999),
    ("move", (1, 0), (1, 0), 3),
    ("drop", (1, 0)), ("drop", ROOT), ("wish", (1, 0), "a"), ("wish", ROOT, "zzzz"), ("point", (1, 0), None),
    ("point", (1, 0), ROOT), ("point", ROOT, (3, 1)), ("set", (1, 0), 0), ("set", ROOT, 99), ("undo", (1, 0)),
    ("redo", (999, 3)),
)


class RootTest(Case):
    def test_root(self):
        self.tells((0, 0), ROOT)


class NameTest(Case):
    def test_names(self):
        for name in ("a", "z", "ab", "xyz", "abcd", "zzzz"):
            self.assertIs(True, is_name(name))
        self.assertIs(True, is_name(value="x"))

    def test_no_names(self):
        for value in ("", "abcde", "A", "aB", "x1", "a b", " a", "a\n", "\u00e9", "\u0131", "`", "{", "a-", b"ab", None,
                      True, 1, 0, ["a"], ("a",), {"a": 1}, object()):
            self.assertIs(False, is_name(value), value)


class StampTest(Case):
    def test_stamps(self):
        for stamp in ((1, 0), (999, 3), (1, 3), (500, 1)):
            self.assertIs(True, is_stamp(stamp))
        self.assertIs(True, is_stamp(value=(1, 0)))

    def test_no_stamps(self):
        for value in STRANGE:
            self.assertIs(repr(value) == "(999, 3)", is_stamp(value), value)
        for value in (ROOT, (1000, 0), (0, 3), (5, 4), (5, -1), (True, 0), (1, True), (2, False), [2, 1], (2, 1, 0)):
            self.assertIs(False, is_stamp(value), value)


class BodyTest(Case):
    def test_bodies(self):
        for body in BODIES:
            self.assertIs(True, is_body(body), body)
        self.assertIs(True, is_body(value=("drop", ROOT)))

    def test_lists_longer_and_shorter_ones_are_none(self):
        for body in BODIES:
            for value in (list(body), (*body, None), (*body, 0), body[:-1], body[1:], (body,),
                          (body[0].upper(), *body[1:])):
                self.assertIs(False, is_body(value), value)

    def test_wrong_values_in_any_place_are_none(self):
        for body in BODIES:
            for at in range(len(body)):
                for value in STRANGE:
                    self.assertIs(self.may_stand(body, at, value), is_body((*body[:at], value, *body[at + 1:])),
                                  (body, at, value))

    def may_stand(self, body, at, value):
        """Whether the strange value is a right one in this place of the body."""
        word = body[0]
        is_number = value.__class__ is int
        if at == 0:
            return value.__class__ is str and value == word
        if word == "make" and at == 1:
            return False
        if (word, at) in (("make", 3), ("move", 3)):
            return is_number and 0 <= value <= 999
        if (word, at) in (("make", 4), ("set", 2), ("wish", 2), ("point", 2)):
            kind = {"set": "number", "wish": "let", "point": "use"}.get(word, body[1])
            if kind == "number":
                return is_number and 0 <= value <= 99
            if kind == "let":
                return value.__class__ is str and value in ("a", "ab", "make")
            return value is None or (kind == "use" and repr(value) == "(999, 3)")
        return repr(value) == "(999, 3)"

    def test_limits(self):
        self.assertIs(False, is_body(("make", "block", ROOT, 1000, None)))
        self.assertIs(False, is_body(("make", "block", ROOT, -1, None)))
        self.assertIs(False, is_body(("make", "number", ROOT, 0, 100)))
        self.assertIs(False, is_body(("make", "number", ROOT, 0, -1)))
        self.assertIs(False, is_body(("make", "number", ROOT, 0, True)))
        self.assertIs(False, is_body(("make", "number", ROOT, False, 1)))
        self.assertIs(False, is_body(("make", "number", ROOT, 0, None)))
        self.assertIs(False, is_body(("make", "let", ROOT, 0, None)))
        self.assertIs(False, is_body(("make", "let", ROOT, 0, "abcde")))
        self.assertIs(False, is_body(("make", "block", ROOT, 0, 0)))
        self.assertIs(False, is_body(("make", "sum", ROOT, 0, "x")))
        self.assertIs(False, is_body(("make", "product", ROOT, 0, ROOT)))
        self.assertIs(False, is_body(("make", "use", ROOT, 0, "x")))
        self.assertIs(False, is_body(("make", "root", ROOT, 0, None)))
        self.assertIs(False, is_body(("make", "block", None, 0, None)))
        self.assertIs(False, is_body(("make", "block", (False, 0), 0, None)))
        self.assertIs(False, is_body(("move", (1, 0), (0, False), 0)))
        self.assertIs(False, is_body(("move", (1, 0), (2, 0), 1000)))
        self.assertIs(False, is_body(("set", (1, 0), 100)))
        self.assertIs(False, is_body(("set", (1, 0), False)))
        self.assertIs(False, is_body(("set", (1, 0), "x")))
        self.assertIs(False, is_body(("wish", (1, 0), 5)))
        self.assertIs(False, is_body(("wish", (1, 0), None)))
        self.assertIs(False, is_body(("point", (1, 0), "x")))
        self.assertIs(False, is_body(("undo", ROOT)))
        self.assertIs(False, is_body(("redo", ROOT)))
        self.assertIs(False, is_body(("undo", None)))
        self.assertIs(False, is_body(("turn", (1, 0))))
        self.assertIs(False, is_body(("turn", (1, 0), 5)))

    def test_any_value_may_be_asked(self):
        for value in STRANGE:
            self.assertIs(False, is_body(value))


class DeedTest(Case):
    def test_deeds(self):
        for body in BODIES:
            self.assertIs(True, is_deed(((1, 0), NOTHING, body)))
        self.assertIs(True, is_deed(((999, 3), (998, 0, 1, 998), ("drop", ROOT))))
        self.assertIs(True, is_deed(value=deed(2, 1, 1, "drop", (1, 0))))

    def test_a_deed_is_one_by_itself_alone(self):
        self.assertIs(True, is_deed(deed(5, 0, (4, 3, 2, 1), "drop", (900, 2))))
        self.assertIs(True, is_deed(deed(5, 0, NOTHING, "drop", (5, 0))))

    def test_what_is_seen_has_to_be_below_the_time(self):
        for seen in ((5, 0, 0, 0), (0, 0, 0, 5), (6, 0, 0, 0), (-1, 0, 0, 0), (0, 0, 0), (0, 0, 0, 0, 0), [0, 0, 0, 0],
                     (False, 0, 0, 0), (0, True, 0, 0), (None, 0, 0, 0), (0, 0, 0, "0"), (0, 0, 0.0, 0), None, 0):
            self.assertIs(False, is_deed(((5, 0), seen, ("drop", ROOT))), seen)
        self.assertIs(True, is_deed(((5, 0), (4, 4, 4, 4), ("drop", ROOT))))

    def test_no_deeds(self):
        right = deed(5, 1, NOTHING, "drop", (1, 0))
        for value in (list(right), right[:2], (*right, None), (right[0], list(right[1]), right[2]), (right,),
                      right[::-1],
                      (right[0], right[1], list(right[2]))):
            self.assertIs(False, is_deed(value), value)
        for value in STRANGE:
            self.assertIs(False, is_deed(value))
            self.assertIs(repr(value) == "(999, 3)", is_deed((value, *right[1:])))
            self.assertIs(False, is_deed((right[0], value, right[2])))
            self.assertIs(False, is_deed((*right[:2], value)))
        self.assertIs(False, is_deed((ROOT, NOTHING, ("drop", ROOT))))


class MarkTest(Case):
    def test_undo_and_redo_are_marks(self):
        for body in BODIES:
            self.assertIs(body[0] in ("undo", "redo"), is_mark(((5, 0), NOTHING, body)))
        self.assertIs(True, is_mark(deed=deed(2, 0, 1, "undo", (1, 0))))

    def test_no_deed(self):
        for value in STRANGE:
            self.refused(NoDeed, value, is_mark, value)
        self.refused(NoDeed, ("undo", (1, 0)), is_mark, ("undo", (1, 0)))


class NamedTest(Case):
    def named(self, expected, *body):
        self.tells(expected, named_by(deed(9, 0, 8, *body)))

    def test_stamps_that_are_named(self):
        self.named([(3, 1)], "make", "block", (3, 1), 0, None)
        self.named([(3, 1), (4, 0)], "make", "use", (4, 0), 0, (3, 1))
        self.named([(2, 0), (2, 1)], "move", (2, 1), (2, 0), 7)
        self.named([(5, 2)], "drop", (5, 2))
        self.named([(5, 2)], "wish", (5, 2), "x")
        self.named([(4, 0), (5, 2)], "point", (5, 2), (4, 0))
        self.named([(5, 2)], "point", (5, 2), None)
        self.named([(5, 2)], "set", (5, 2), 3)
        self.named([(5, 2)], "undo", (5, 2))
        self.named([(5, 2)], "redo", (5, 2))

    def test_each_once(self):
        self.named([(2, 1)], "move", (2, 1), (2, 1), 7)
        self.named([(2, 1)], "make", "use", (2, 1), 0, (2, 1))
        self.named([(2, 1)], "point", (2, 1), (2, 1))

    def test_ascending(self):
        stamps = [(time, hand) for time in (1, 2, 10, 100) for hand in (0, 3)]
        for one in stamps:
            for other in stamps:
                self.named(sorted({one, other}), "move", one, other, 7)

    def test_without_the_root(self):
        self.named([], "make", "let", ROOT, 0, "x")
        self.named([], "make", "use", ROOT, 0, ROOT)
        self.named([], "make", "use", ROOT, 0, None)
        self.named([(1, 0)], "move", (1, 0), ROOT, 0)
        self.named([(1, 0)], "move", ROOT, (1, 0), 0)
        self.named([], "drop", ROOT)
        self.named([(1, 0)], "point", (1, 0), ROOT)

    def test_a_new_list_each_time(self):
        one = deed(2, 0, 1, "drop", (1, 0))
        named_by(one).append(5)
        self.tells([(1, 0)], named_by(deed=one))

    def test_no_deed(self):
        for value in STRANGE:
            self.refused(NoDeed, value, named_by, value)


class SeenTest(Case):
    def test_entries(self):
        one = deed(9, 1, (4, 8, 0, 2), "drop", ROOT)
        self.tells([4, 8, 0, 2], [time_seen(one, hand) for hand in range(4)])
        self.tells(8, time_seen(deed=one, hand=1))

    def test_the_deed_is_looked_at_ahead_of_the_hand(self):
        for value in STRANGE:
            self.refused(NoDeed, value, time_seen, value, 9)
        one = deed(9, 1, 8, "drop", ROOT)
        for value in STRANGE:
            if value.__class__ is not int or not 0 <= value <= 3:
                self.refused(NoHand, value, time_seen, one, value)
        self.refused(NoHand, 4, time_seen, one, 4)
        self.refused(NoHand, True, time_seen, one, True)


class HoldTest(Case):
    def test_four_kinds_hold(self):
        for kind in ("block", "let", "sum", "product"):
            self.assertIs(True, does_hold(kind))
        self.assertIs(True, does_hold(kind="let"))
        for kind in ("use", "number", "", "Block", "blocks", b"let", ("let",), ["let"]):
            self.assertIs(False, does_hold(kind), kind)
        for value in STRANGE:
            self.assertIs(False, does_hold(value))
