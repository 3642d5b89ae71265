"""Point [22] and section reach.py."""

import itertools
import random

from sharedscopes.books import Book
from sharedscopes.errors import NoBook, NoMenu, NoStamp, NoStamps
from sharedscopes.late import changed_rows
from sharedscopes.reach import does_heal, healing_sets, reach_of
from sharedscopes.reading import made_of
from sharedscopes.states import State
from tests.model import MARKS, Model
from tests.programs import random_book
from tests.samples import ROOT, STRANGE, Case, Likeness, deed, random_deeds
from tests.views import View
from tests.worths import Worth

WORDS = ["places", "contents", "in", "uses", "names", "values", "fates"]

NONE = {word: [] for word in WORDS}

# The let (1, 0) of the number (2, 0), and its use (3, 0).
SMALL = made_of("(x = 5) x")

# Two moves of which the second one would make a ring.
RING = Book([deed(1, 0, 0, "make", "block", ROOT, 0, None), deed(2, 0, 1, "make", "block", ROOT, 1, None),
             deed(3, 0, 2, "move", (1, 0), (2, 0), 0), deed(3, 1, 2, "move", (2, 0), (1, 0), 0)])


def reach(book, stamp):
    """What of the reach is not empty."""
    told = reach_of(book, stamp)
    return {word: told[word] for word in told if told[word]}


def changed(one, other):
    return sorted(key for key in set(one) & set(other) if one[key] != other[key])


def unlike(one, other):
    return sorted((set(one) ^ set(other)) | set(changed(one, other)))


class Side:
    """The state, and the fates, of some deeds without some of them."""

    def __init__(self, deeds, without=()):
        self.model = Model(deeds, without)
        self.view = View(self.model)
        self.places = {thing: place for thing, place in self.model.places.items() if thing != ROOT}
        self.fates = {stamp: self.model.fate(stamp) for stamp in self.model.ordinary}

    def is_whole(self):
        return len(self.view.bound) == len(self.view.uses) and not {"gone", "ring"} & {fate[0] for fate in self.fates.values()}


def told_reach(book, stamp):
    """The document's words on reach."""
    one, other = Side(book.deeds()), Side(book.deeds(), [stamp])
    worths = [Worth(side.view) for side in (one, other)]
    values = [{thing: worth.value(thing) for thing in worth.view.line} for worth in worths]
    lines = [{thing: True for thing in side.view.line} for side in (one, other)]
    return {
        "places": unlike(one.places, other.places),
        "contents": changed(one.view.contents, other.view.contents),
        "in": unlike(*lines),
        "uses": unlike(one.view.told, other.view.told),
        "names": unlike(one.view.told_naming({}), other.view.told_naming({})),
        "values": changed(*values),
        "fates": changed(one.fates, other.fates),
    }


class ReachTest(Case):
    def test_a_make(self):
        self.tells({**NONE, "places": [(1, 0), (2, 0)], "in": [(1, 0), (2, 0)], "uses": [(3, 0)], "names": [(1, 0)],
                    "values": [ROOT, (3, 0)], "fates": [(2, 0)]}, reach_of(SMALL, (1, 0)))
        self.tells(WORDS, list(reach_of(book=SMALL, stamp=(3, 0))))
        self.tells({"places": [(3, 0)], "in": [(3, 0)], "uses": [(3, 0)], "values": [ROOT]}, reach(SMALL, (3, 0)))

    def test_a_set_a_wish_and_a_point(self):
        book = SMALL.followed(0, [("set", (2, 0), 6), ("wish", (1, 0), "y"), ("point", (3, 0), None)])
        self.tells({"contents": [(2, 0)], "values": [(1, 0), (2, 0)]}, reach(book, (4, 0)))
        self.tells({"contents": [(1, 0)], "names": [(1, 0)]}, reach(book, (5, 0)))
        self.tells({"contents": [(3, 0)], "uses": [(3, 0)], "values": [ROOT, (3, 0)]}, reach(book, (6, 0)))
        twice = SMALL.followed(0, [("set", (2, 0), 6), ("set", (2, 0), 7)])
        self.tells({"contents": [(2, 0)], "values": [ROOT, (1, 0), (2, 0), (3, 0)], "fates": [(4, 0)]}, reach(twice, (5, 0)))
        self.tells(NONE, reach_of(twice, (4, 0)))

    def test_a_drop_and_a_move(self):
        book = SMALL.followed(0, [("move", (3, 0), ROOT, 7)])
        self.tells({"places": [(3, 0)], "fates": [(3, 0)]}, reach(book, (4, 0)))
        book = SMALL.followed(0, [("drop", (1, 0))])
        self.tells({"places": [(1, 0)], "in": [(1, 0), (2, 0)], "uses": [(3, 0)], "names": [(1, 0)], "values": [ROOT, (3, 0)],
                    "fates": [(1, 0)]}, reach(book, (4, 0)))

    def test_what_changes_nothing(self):
        book = SMALL.followed(0, [("set", (2, 0), 5), ("move", (2, 0), (1, 0), 0), ("set", (1, 0), 5)])
        self.tells(NONE, reach_of(book, (4, 0)))
        # The place has the stamp of the deed that put it there.
        self.tells({"places": [(2, 0)], "fates": [(2, 0)]}, reach(book, (5, 0)))
        self.tells(NONE, reach_of(book, (6, 0)))

    def test_being_there_and_being_nowhere(self):
        # Without the make the thing is not there; with it, it is nowhere.
        book = made_of("1").followed(0, [("drop", (1, 0))])
        self.tells({"places": [(1, 0)], "fates": [(2, 0)]}, reach(book, (1, 0)))

    def test_marks(self):
        book = SMALL.followed(0, [("undo", (2, 0))])
        self.tells({"places": [(2, 0)], "in": [(2, 0)], "values": [ROOT, (1, 0), (3, 0)], "fates": [(2, 0)]}, reach(book, (4, 0)))
        book = SMALL.followed(0, [("undo", (2, 0)), ("redo", (2, 0))])
        # Without the redo it is undone; without the undo the redo is idle.
        self.tells({"places": [(2, 0)], "in": [(2, 0)], "values": [ROOT, (1, 0), (3, 0)], "fates": [(2, 0)]}, reach(book, (5, 0)))
        self.tells(NONE, reach_of(book, (4, 0)))

    def test_marks_of_idle_kinds(self):
        # Of another hand, of a mark, and one that is idle though it counts.
        book = SMALL.followed(1, [("undo", (2, 0))]).followed(0, [("redo", (1, 0)), ("undo", (5, 0))])
        for stamp in ((4, 1), (5, 0), (6, 0)):
            self.tells(NONE, reach_of(book, stamp))
        # A second undo is idle, but it is the last mark that counts.
        twice = SMALL.followed(0, [("undo", (2, 0)), ("undo", (2, 0))])
        self.tells({"fates": [(2, 0)]}, reach(twice, (5, 0)))
        self.tells(NONE, reach_of(twice, (4, 0)))

    def test_deeds_that_turn_others(self):
        self.tells({"places": [(1, 0), (2, 0)], "values": [], "fates": [(1, 0), (2, 0), (3, 1)]},
                   {word: row for word, row in reach_of(RING, (3, 0)).items() if row or word == "values"})
        self.tells(NONE, reach_of(RING, (3, 1)))

    def test_a_clash(self):
        made = deed(1, 0, 0, "make", "let", ROOT, 0, "x")
        book = Book([made, deed(2, 0, 1, "wish", (1, 0), "y"), deed(2, 1, 1, "wish", (1, 0), "z")])
        self.tells(NONE, reach_of(book, (2, 0)))
        self.tells({"contents": [(1, 0)], "names": [(1, 0)], "fates": [(2, 0)]}, reach(book, (2, 1)))

    def test_names_of_others(self):
        book = made_of("(x =) (y =) x").followed(0, [("wish", (2, 0), "x")])
        # Both have the wish x then, and meet.
        self.tells({"contents": [(2, 0)], "names": [(1, 0), (2, 0)]}, reach(book, (4, 0)))

    def test_wrong_values(self):
        for value in (*STRANGE, State(Book())):
            self.refused(NoBook, value, reach_of, value, None)
            self.refused(NoBook, value, does_heal, value, None)
            self.refused(NoBook, value, healing_sets, value, None)
        for value in (*STRANGE, ROOT, (4, 0), (1, 1)):
            if value != (1, 0) or isinstance(value, Likeness):
                self.refused(NoStamp, value, reach_of, SMALL, value)


class HealTest(Case):
    # The point (4, 0) loses the use (3, 0); the wish (5, 1) is gone, as it is about the number.
    BROKEN = SMALL.followed(0, [("point", (3, 0), None)]).followed(1, [("wish", (2, 0), "y")])

    def test_healing(self):
        self.assertIs(True, does_heal(SMALL, []))
        self.assertIs(True, does_heal(book=Book(), stamps=()))
        self.assertIs(False, does_heal(self.BROKEN, []))
        self.assertIs(False, does_heal(self.BROKEN, [(4, 0)]))
        self.assertIs(False, does_heal(self.BROKEN, [(5, 1)]))
        self.assertIs(True, does_heal(self.BROKEN, ((5, 1), (4, 0))))
        self.assertIs(True, does_heal(self.BROKEN, [(4, 0), (5, 1), (2, 0)]))
        # Without the let its use is lost, and what is made under it is gone.
        self.assertIs(False, does_heal(SMALL, [(1, 0)]))
        self.assertIs(False, does_heal(SMALL, [(1, 0), (3, 0)]))
        self.assertIs(True, does_heal(SMALL, [(1, 0), (3, 0), (2, 0)]))

    def test_rings(self):
        self.assertIs(False, does_heal(RING, []))
        self.assertIs(True, does_heal(RING, [(3, 0)]))
        self.assertIs(True, does_heal(RING, [(3, 1)]))

    def test_uses_that_are_not_in(self):
        book = made_of("(?) 1").followed(0, [("drop", (1, 0))])
        self.assertIs(True, does_heal(book, []))
        self.assertIs(False, does_heal(book, [(4, 0)]))

    def test_what_is_undone_is_not_gone(self):
        book = self.BROKEN.followed(0, [("undo", (4, 0))]).followed(1, [("undo", (5, 1))])
        self.assertIs(True, does_heal(book, []))

    def test_healing_sets(self):
        self.tells([((4, 0), (5, 1))], healing_sets(self.BROKEN, ((4, 0), (5, 1))))
        self.tells([], healing_sets(book=self.BROKEN, menu=((4, 0),)))
        self.tells([()], healing_sets(SMALL, ((1, 0), (2, 0), (3, 0))))
        self.tells([((3, 0),), ((3, 1),)], healing_sets(RING, ((3, 0), (3, 1))))
        self.tells([((3, 1),)], healing_sets(RING, ((3, 1),)))

    def test_parts_that_heal_ahead_of_greater_ones(self):
        # The lost use can be undone alone; with its let or without, two ways that hold it are not told.
        book = made_of("(x = ?) 1")
        self.tells([((2, 0),)], healing_sets(book, ((1, 0), (2, 0), (3, 0))))
        self.tells([((2, 0),)], healing_sets(book, ((1, 0), (2, 0))))
        self.tells([], healing_sets(book, ((1, 0), (3, 0))))

    def test_by_size_then_ascending(self):
        # The use is lost as its let came behind it; the move did it, or the use itself has to go.
        book = made_of("(x =) (y =) x y").followed(0, [("move", (1, 0), ROOT, 9), ("move", (2, 0), ROOT, 9)])
        self.tells([((3, 0), (4, 0)), ((3, 0), (6, 0)), ((4, 0), (5, 0)), ((5, 0), (6, 0))],
                   healing_sets(book, ((3, 0), (4, 0), (5, 0), (6, 0))))
        self.tells([((3, 0), (6, 0)), ((5, 0), (6, 0))], healing_sets(book, ((3, 0), (5, 0), (6, 0))))

    def test_menus_of_one_and_eight(self):
        book = made_of("? ? ? ? ? ? ? ?")
        menu = tuple(book.listed())
        self.tells([menu], healing_sets(book, menu))
        self.tells([], healing_sets(book, menu[:7]))
        self.tells([((1, 0),)], healing_sets(made_of("?"), ((1, 0),)))
        self.tells([()], healing_sets(made_of("1 2 3 4 5 6 7 8"), menu))

    def test_wrong_menus(self):
        book = made_of("1 2 3 4 5 6 7 8 9").followed(0, [("undo", (9, 0))])
        for menu in ((), tuple(book.listed()[:9]), [(1, 0)], ((2, 0), (1, 0)), ((1, 0), (1, 0)), ((1, 0), (2, 0), (2, 0)), ((10, 0),),
                     ((1, 0), (10, 0)), ((11, 0),), (ROOT,), ((1, False),), ((True, 0),), (1, 0), ((1, 0), None), {(1, 0): True},
                     ([1, 0],), (Likeness(),), ((1, 0), Likeness()), ((1, 1),), "ab", None):
            self.refused(NoMenu, menu, healing_sets, book, menu)
        for menu in STRANGE:
            if menu != ((1, 0),) or isinstance(menu, Likeness):
                self.refused(NoMenu, menu, healing_sets, book, menu)
        self.tells([()], healing_sets(book, ((9, 0),)))

    def test_wrong_stamps(self):
        book = SMALL.followed(0, [("undo", (2, 0))])
        self.refuses_stamps(NoStamps, lambda stamps: does_heal(SMALL, stamps), SMALL)
        # Marks are none that may be told.
        self.refused(NoStamps, 0, does_heal, book, [(4, 0)])
        self.refused(NoStamps, 1, does_heal, book, ((1, 0), (4, 0), (1, 0)))
        self.refused(NoStamps, 1, does_heal, book, [(1, 0), (1, 0), (4, 0)])


class RandomTest(Case):
    def books(self, many=60, deeds=26):
        for seed in range(many):
            yield random.Random(seed), Book(random_deeds(f"reach {seed}", deeds, hands=seed % 4 + 1, meeting=0.5))
        for seed in range(many // 2):
            book = random_book(f"reach {seed}", 12, 4)
            yield random.Random(seed), book.followed(0, [("undo", (1, 0))] if seed % 2 and len(book) else [])

    def test_as_the_document_says(self):
        found = {word: 0 for word in WORDS}
        for rng, book in self.books():
            for stamp in rng.sample(book.listed(), min(6, len(book))) if len(book) else []:
                told = reach_of(book, stamp)
                self.tells(told_reach(book, stamp), told)
                for word in WORDS:
                    found[word] += bool(told[word])
        self.assertTrue(min(found.values()) > 20, found)

    def bounded(self, book, stamp):
        """What the document says of the bounds of a deed's reach."""
        told, state, other = reach_of(book, stamp), State(book), State(book, [stamp])
        word, thing = book[stamp][2][:2]
        empty = {"wish": ["places", "in", "uses", "values"], "set": ["places", "in", "uses", "names"], "point": ["places", "in"]}
        for name in empty.get(word, []):
            self.tells([], told[name])
        if word == "point":
            self.assertLessEqual(set(told["uses"]), {thing})
        if word == "wish" and told["contents"]:
            wishes = {state.content(thing), other.content(thing)}
            self.assertEqual(2, len(wishes))
            self.assertLessEqual({state.content(let) for let in told["names"]} | {other.content(let) for let in told["names"]}, wishes)
        if word == "wish" and not told["contents"]:
            self.tells([], told["names"])
        if word in ("move", "drop") and not changed_rows(book, ("out", stamp))[2]:
            if not state.is_there(thing):
                self.tells({name: [] for name in WORDS[:6]}, {name: told[name] for name in WORDS[:6]})
                return
            below = [thing, *state.below(thing)]
            lets = [one for one in below if state.kind(one) == "let"]
            self.assertLessEqual(set(told["places"]), {thing})
            self.assertLessEqual(set(told["in"]), set(below))
            for use in told["uses"]:
                self.assertTrue(use in below or state.content(use) in lets)

    def test_the_bounds(self):
        seen = {}
        for _, book in self.books():
            for stamp in book:
                seen[book[stamp][2][0]] = seen.get(book[stamp][2][0], 0) + 1
                self.bounded(book, stamp)
        self.assertTrue(min(seen.get(word, 0) for word in ("wish", "set", "point", "move", "drop")) > 20, seen)

    def test_idle_marks_reach_nothing_but_fates(self):
        for _, book in self.books(20):
            model = Model(book.deeds())
            for stamp in book:
                if book[stamp][2][0] in MARKS and not model.counts(stamp):
                    self.tells(NONE, reach_of(book, stamp))

    def test_healing_sets_by_trying_all(self):
        found = 0
        for rng, book in self.books(50, 14):
            ordinary = Model(book.deeds()).ordinary
            for many in (1, 3, 6):
                if len(ordinary) < many:
                    continue
                broken = [stamp for stamp, fate in Side(book.deeds()).fates.items() if fate[0] in ("gone", "ring")]
                menu = set(rng.sample(ordinary, many)) | set(broken)
                menu = tuple(sorted(rng.sample(sorted(menu), many)))
                lots = [lot for size in range(many + 1) for lot in itertools.combinations(menu, size)]
                heal = [lot for lot in lots if Side(book.deeds(), lot).is_whole()]
                for lot in lots:
                    self.assertIs(lot in heal, does_heal(book, list(lot)))
                least = [lot for lot in heal if not any(set(other) < set(lot) for other in heal)]
                found += any(least)
                self.tells(least, healing_sets(book, menu))
        self.assertGreater(found, 20)
