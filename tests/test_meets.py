"""Point [13] and section meets.py."""

import itertools
import random

from sharedscopes.books import Book
from sharedscopes.errors import NoNaming, NoState, NoThing
from sharedscopes.meets import (accepts_wrong, do_meet, is_naming, is_right, is_written, live_points, ranked_lets,
                                read_as, wrong_paper)
from sharedscopes.reading import made_of
from sharedscopes.states import State
from tests.model import Model
from tests.programs import drawn, tangled
from tests.samples import ROOT, STRANGE, Case, Likeness, random_deeds
from tests.views import View

# Lets a (1, 0), b (3, 0), c (5, 0), d (8, 0); b holds a use of a, c is used in it, then a and c; d stands alone.
TEXT = "(a = 1) (b = a) (c = (b) (d =)) a c"
STATE = State(made_of(TEXT))
NAMES = {(1, 0): "a", (3, 0): "b", (5, 0): "c", (8, 0): "d"}

EMPTY = State(Book())


class WrittenTest(Case):
    def test_names(self):
        for name in ("a", "z", "ab", "abcd", "zzzz", "n"):
            self.assertIs(True, is_written(name))
            for number in ("1", "9", "10", "19", "50", "90", "99"):
                self.assertIs(True, is_written(value=name + number))

    def test_each_sign(self):
        letters, figures = "abcdefghijklmnopqrstuvwxyz", "123456789"
        for sign in [chr(code) for code in range(300)]:
            self.assertIs(sign in letters, is_written(sign))
            self.assertIs(sign in letters + figures, is_written("a" + sign))
            self.assertIs(sign in figures + "0", is_written("a1" + sign))
            self.assertIs(sign in figures, is_written("abcd" + sign))
            self.assertIs(False, is_written("a12" + sign))

    def test_no_names(self):
        for name in ("", "1", "A", "aB", "abcde", "abcde1", "a0", "a01", "a00", "a100", "a101", "abcd100", "a1b", "1a",
                     "a 1", " a", "a ", "a\n", "a1\n", "a-1", "a+1", "a_", "?", "a.1", "\u00e4", "a\u00b2", "a\u0661",
                     "0", "a1 ", "a 0", "a999", b"a", ["a"], ("a",), ("a", 1)):
            self.assertIs(False, is_written(name), name)
        for value in STRANGE:
            self.assertIs(value in ("a", "ab", "make") and isinstance(value, str), is_written(value), value)


class NamingTest(Case):
    def test_namings(self):
        self.assertIs(True, is_naming(STATE, NAMES))
        self.assertIs(True, is_naming(STATE, dict(reversed(NAMES.items()))))
        self.assertIs(True, is_naming(state=STATE, value={let: "x99" for let in NAMES}))
        self.assertIs(True, is_naming(EMPTY, {}))

    def test_no_namings(self):
        bent = [{}, {(1, 0): "a"}, {**NAMES, (2, 0): "x"}, {**NAMES, (9, 9): "x"}, {**NAMES, ROOT: "x"},
                {**NAMES, (1, 0): "a0"}, {**NAMES, (1, 0): "a100"}, {**NAMES, (8, 0): None}, {**NAMES, (8, 0): ""},
                {**NAMES, (8, 0): ["d"]}, {**NAMES, (8, 0): Likeness()}, {**NAMES, Likeness(): "d"}, {**NAMES, 5: "x"},
                {**NAMES, None: "x"}, {**NAMES, "a": "a"}, list(NAMES), tuple(NAMES.items()), list(NAMES.values()),
                {(True, 0) if let == (1, 0) else let: name for let, name in NAMES.items()},
                {(1, False) if let == (1, 0) else let: name for let, name in NAMES.items()},
                {(1.0, 0) if let == (1, 0) else let: name for let, name in NAMES.items()},
                {let: name for let, name in NAMES.items() if let != (8, 0)},
                {(2, 0) if let == (8, 0) else let: name for let, name in NAMES.items()},
                {ROOT if let == (8, 0) else let: name for let, name in NAMES.items()}]
        for value in (*bent, *STRANGE):
            self.assertIs(False, is_naming(STATE, value), value)
        self.assertIs(False, is_naming(EMPTY, NAMES))
        nowhere = State(made_of(TEXT).followed(0, [("drop", (5, 0))]))
        self.assertIs(False, is_naming(nowhere, NAMES))
        self.assertIs(True, is_naming(nowhere, {(1, 0): "a", (3, 0): "b"}))

    def test_a_check_changes_nothing(self):
        names = dict(NAMES)
        is_right(STATE, names)
        self.tells(NAMES, names)


class MeetTest(Case):
    def test_live_points(self):
        self.tells([(1, 0), (3, 0), (5, 0)], live_points(STATE, (1, 0)))
        self.tells([(3, 0)], live_points(STATE, (3, 0)))
        self.tells([(5, 0)], live_points(STATE, (5, 0)))
        self.tells([(8, 0)], live_points(state=STATE, let=(8, 0)))

    def test_all_points_down_to_the_let(self):
        state = State(made_of("(a =) (b =) ((c =) (d =) a)"))
        self.tells([(1, 0), (2, 0), (4, 0), (5, 0)], live_points(state, (1, 0)))

    def test_lost_uses_count_for_nothing(self):
        state = State(made_of("? (a =) (b =)").followed(0, [("point", (1, 0), (2, 0))]))
        self.tells([(2, 0)], live_points(state, (2, 0)))
        self.assertIs(False, do_meet(state, (2, 0), (3, 0)))

    def test_meeting(self):
        meeting = [pair for pair in itertools.combinations(NAMES, 2) if do_meet(STATE, *pair)]
        self.tells([((1, 0), (3, 0)), ((1, 0), (5, 0))], meeting)
        for one, other in itertools.permutations(NAMES, 2):
            self.assertIs(tuple(sorted((one, other))) in meeting, do_meet(state=STATE, one=one, other=other))

    def test_like_lets(self):
        for let in NAMES:
            self.refused(NoThing, let, do_meet, STATE, let, let)

    def test_ranks(self):
        self.tells([(1, 0), (3, 0), (5, 0), (8, 0)], ranked_lets(STATE))
        self.tells([], ranked_lets(EMPTY))
        # The later stamp stands ahead, so it has the lesser depth; of one depth the lesser stamp is first.
        moved = made_of("(a =) ((b =)) (c =)").followed(0, [("move", (1, 0), ROOT, 9), ("move", (2, 0), ROOT, 0)])
        self.tells([(3, 0), (4, 0), (1, 0)], ranked_lets(state=State(moved)))


class ReadTest(Case):
    def test_read_as_the_first_visible_let_of_the_name(self):
        self.tells((1, 0), read_as(STATE, NAMES, (4, 0)))
        self.tells((5, 0), read_as(state=STATE, naming=NAMES, use=(10, 0)))
        alike = {**NAMES, (3, 0): "a", (5, 0): "a"}
        self.tells([(1, 0), (3, 0), (5, 0), (5, 0)],
                   [read_as(STATE, alike, use) for use in ((4, 0), (7, 0), (9, 0), (10, 0))])

    def test_right_and_wrong(self):
        self.assertIs(True, is_right(STATE, NAMES))
        self.assertIs(None, wrong_paper(STATE, NAMES))
        self.assertIs(True, is_right(EMPTY, {}))
        self.assertIs(None, wrong_paper(EMPTY, {}))
        wrong = {**NAMES, (3, 0): "a"}
        self.assertIs(False, is_right(state=STATE, naming=wrong))
        self.tells(("caught", (9, 0), (3, 0)), wrong_paper(state=STATE, naming=wrong))
        # b and c do not meet, nor do any two of b, c and d.
        self.assertIs(True, is_right(STATE, {**NAMES, (3, 0): "c", (8, 0): "c"}))

    def test_the_first_caught_use_of_the_line(self):
        text = "(a =) a (b =) a (a)"
        book = made_of(text).followed(0, [("move", (5, 0), ROOT, 2)])
        self.tells(("caught", (6, 0), (3, 0)), wrong_paper(State(book), {(1, 0): "x", (3, 0): "x"}))
        self.tells(("caught", (4, 0), (3, 0)), wrong_paper(State(made_of(text)), {(1, 0): "x", (3, 0): "x"}))

    def test_papers_of_others(self):
        state = State(made_of("(a =) a (b =) a (a b)"))
        naming = {(1, 0): "x", (3, 0): "x"}
        for use, let in itertools.product(state.line(), state.line()):
            value = ("caught", use, let)
            self.assertIs(use in ((4, 0), (6, 0)) and let == (3, 0), accepts_wrong(state, naming, value))
        self.assertIs(True, accepts_wrong(state=state, naming=naming, value=("caught", (6, 0), (3, 0))))
        right = {(1, 0): "x", (3, 0): "y"}
        self.assertIs(False, accepts_wrong(state, right, ("caught", (4, 0), (3, 0))))

    def test_bent_papers(self):
        state = State(made_of("(a =) a (b =) a"))
        naming = {(1, 0): "x", (3, 0): "x"}
        value = ("caught", (4, 0), (3, 0))
        self.assertIs(True, accepts_wrong(state, naming, value))
        for bent in (*STRANGE, list(value), value[:2], (*value, None), ("catch", *value[1:]), (None, *value[1:]),
                     (b"caught", *value[1:]), ("caught", (3, 0), (4, 0)), ("caught", (4, 0), (1, 0)),
                     ("caught", [4, 0], (3, 0)), ("caught", (4, 0), [3, 0]), ("caught", (4, False), (3, 0)),
                     ("caught", (4, 0), (3, False)), ("caught", (2, 0), (3, 0)), ("caught", ((4, 0), (3, 0))),
                     ("caught", Likeness(), Likeness()), ("caught", (4, 0), None), ("caught", None, (3, 0))):
            self.assertIs(False, accepts_wrong(state, naming, bent), bent)


class WrongTest(Case):
    def test_no_state(self):
        for value in (*STRANGE, made_of(TEXT), State):
            for call in (is_naming, live_points, is_right, wrong_paper):
                self.refused(NoState, value, call, value, None)
            for call in (do_meet, read_as, accepts_wrong):
                self.refused(NoState, value, call, value, None, None)
            self.refused(NoState, value, ranked_lets, value)

    def test_no_lets(self):
        for value in (*STRANGE, ROOT, (2, 0), (6, 0), (7, 0), (9, 0), (11, 0)):
            self.refused(NoThing, value, live_points, STATE, value)
            self.refused(NoThing, value, do_meet, STATE, value, None)
            self.refused(NoThing, value, do_meet, STATE, (1, 0), value)

    def test_no_namings(self):
        for value in (*STRANGE, {**NAMES, (2, 0): "x"}, {(1, 0): "a"}, {**NAMES, (1, 0): "a100"}):
            self.refused(NoNaming, value, read_as, STATE, value, None)
            self.refused(NoNaming, value, is_right, STATE, value)
            self.refused(NoNaming, value, wrong_paper, STATE, value)
            self.refused(NoNaming, value, accepts_wrong, STATE, value, None)

    def test_no_bound_uses(self):
        state = State(made_of("(a =) a ? a").followed(0, [("point", (4, 0), (2, 0))]))
        for value in (*STRANGE, ROOT, (1, 0), (3, 0), (4, 0), (5, 0)):
            self.refused(NoThing, value, read_as, state, {(1, 0): "a"}, value)


class RandomTest(Case):
    def cases(self):
        yield from drawn(80, 18)
        yield from tangled(40)
        for seed in range(10):
            deeds = random_deeds(seed, 40, hands=seed % 4 + 1, meeting=0.6)
            yield State(Book(deeds)), View(Model(deeds))

    def test_as_the_document_says(self):
        for state, view in self.cases():
            self.tells(view.ranked(), ranked_lets(state))
            live = {let: view.live(let) for let in view.lets}
            for let in view.lets:
                self.tells(sorted(live[let]), live_points(state, let))
            for one, other in itertools.permutations(view.lets, 2):
                self.assertIs(bool(live[one] & live[other]), do_meet(state, one, other))

    def test_namings(self):
        found = 0
        for seed, (state, view) in enumerate(self.cases()):
            rng = random.Random(seed)
            for names in (["x"], ["x", "y"], ["x", "y", "x1", "z99"]):
                naming = {let: rng.choice(names) for let in view.lets}
                caught = view.caught(naming)
                self.assertIs(not caught, is_right(state, naming))
                self.tells(("caught", *caught[0]) if caught else None, wrong_paper(state, naming))
                for use in view.bound:
                    self.tells(view.read(naming, use), read_as(state, naming, use))
                    for let in view.lets:
                        self.assertIs((use, let) in caught, accepts_wrong(state, naming, ("caught", use, let)))
                alike = any(naming[one] == naming[other] and view.meet(one, other)
                            for one, other in itertools.combinations(view.lets, 2))
                self.assertIs(alike, bool(caught))
                found += alike
        self.assertGreater(found, 50)
