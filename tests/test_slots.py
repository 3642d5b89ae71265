"""Point [9] and section slots.py."""

from sharedscopes.books import Book
from sharedscopes.errors import NoBook, NoDeed, NoSlot
from sharedscopes.slots import clashes, clashes_now, done_of, is_open, open_slots, rivals_of, slot_of, writes_of
from tests.model import Model
from tests.samples import ROOT, STRANGE, Case, Likeness, deed, random_deeds

BLOCK = ("make", "block", ROOT, 0, None)
LET = ("make", "let", ROOT, 7, "x")

# Body, slot, and what it writes; each done at (9, 1).
ROWS = (
    (BLOCK, ("place", (9, 1)), (ROOT, 0)), (("make", "use", (1, 0), 3, (2, 0)), ("place", (9, 1)), ((1, 0), 3)),
    (LET, ("place", (9, 1)), (ROOT, 7)), (("move", (1, 0), (2, 0), 999), ("place", (1, 0)), ((2, 0), 999)),
    (("move", ROOT, ROOT, 1), ("place", ROOT), (ROOT, 1)), (("drop", (3, 2)), ("place", (3, 2)), None),
    (("wish", (1, 0), "abcd"), ("wish", (1, 0)), "abcd"), (("point", (1, 0), (2, 0)), ("point", (1, 0)), (2, 0)),
    (("point", ROOT, None), ("point", ROOT), None), (("set", (1, 0), 0), ("set", (1, 0)), 0),
    (("undo", (1, 0)), None, None), (("redo", (1, 0)), None, None),
)


def apart(*bodies, made=(LET,)):
    """A book of hand 0 with what is made, and then for each body a hand, 1 and on, that has seen just this."""
    first = Book().followed(0, made)
    many = len(made)
    return first.with_deeds([deed(many + 1, hand, many, *body) for hand, body in enumerate(bodies, 1)])


class SlotTest(Case):
    def test_slots_and_what_is_written(self):
        for body, slot, content in ROWS:
            one = deed(9, 1, 8, *body)
            self.tells(slot, slot_of(one))
            self.tells(content, writes_of(one))
            self.tells((slot, content), (slot_of(deed=one), writes_of(deed=one)))

    def test_no_deed(self):
        for value in (*STRANGE, BLOCK, list(deed(9, 1, 8, *BLOCK)), deed(9, 1, 9, *BLOCK)):
            self.refused(NoDeed, value, slot_of, value)
            self.refused(NoDeed, value, writes_of, value)


class DoneTest(Case):
    def setUp(self):
        self.book = Book().followed(0, [LET, BLOCK, ("move", (1, 0), (2, 0), 0), ("wish", (1, 0), "y"),
                                        ("set", (1, 0), 5), ("move", (2, 0), (1, 0), 0), ("drop", (1, 0)),
                                        ("wish", (1, 0), "z"), ("undo", (4, 0)), ("drop", ROOT)])

    def test_done_deeds(self):
        self.tells([(1, 0), (3, 0), (7, 0)], done_of(self.book, ("place", (1, 0))))
        self.tells([(2, 0)], done_of(self.book, ("place", (2, 0))))
        self.tells([(8, 0)], done_of(book=self.book, slot=("wish", (1, 0))))

    def test_slots_of_gone_deeds_have_no_done_ones(self):
        self.tells([], done_of(self.book, ("set", (1, 0))))
        self.tells([], done_of(self.book, ("place", ROOT)))
        self.tells([], rivals_of(self.book, ("set", (1, 0))))
        self.assertIs(False, is_open(self.book, ("set", (1, 0))))
        self.tells([], done_of(Book().followed(0, [BLOCK, ("undo", (1, 0))]), ("place", (1, 0))))

    def test_the_last_one_is_the_rival_of_deeds_that_saw_one_another(self):
        self.tells([(7, 0)], rivals_of(self.book, ("place", (1, 0))))
        self.assertIs(False, is_open(self.book, ("place", (1, 0))))
        self.tells([(8, 0)], rivals_of(book=self.book, slot=("wish", (1, 0))))

    def test_no_slot(self):
        for call in (done_of, rivals_of, is_open):
            for value in (*STRANGE, []):
                self.refused(NoBook, value, call, value, None)
            for value in (*STRANGE, ("place", (3, 0)), ("place", (11, 0)), ("wish", (2, 0)), ("point", (1, 0)),
                          ("move", (1, 0)), ["place", (1, 0)], ("place", [1, 0]), ("place",), ("place", (1, 0), None),
                          ((1, 0), "place"), ("place", (True, 0)), ("place", (1, False)), ("place", None),
                          (None, (1, 0)), (Likeness(), (1, 0)), ("place", Likeness()),
                          (b"place", (1, 0)), ("Place", (1, 0)), ("place", (1, 0.0)), (["place"], (1, 0)), None,
                          ("wish", (0, 0)), ("undo", (4, 0)), ("place", "a")):
                self.refused(NoSlot, value, call, self.book, value)
            self.refused(NoSlot, ("place", ROOT), call, Book(), ("place", ROOT))
            self.refused(NoSlot, ("place", (False, 0)), call, self.book, ("place", (False, 0)))

    def test_new_lists_each_time(self):
        done_of(self.book, ("wish", (1, 0))).clear()
        self.tells([(8, 0)], done_of(self.book, ("wish", (1, 0))))


class OpenTest(Case):
    def test_deeds_apart_are_rivals(self):
        book = apart(("wish", (1, 0), "y"), ("wish", (1, 0), "z"), ("wish", (1, 0), "y"))
        slot = ("wish", (1, 0))
        self.tells([(2, 1), (2, 2), (2, 3)], rivals_of(book, slot))
        self.assertIs(True, is_open(book=book, slot=slot))
        self.tells([slot], open_slots(book))
        self.tells([(slot, [(2, 1), (2, 2), (2, 3)])], clashes_now(book))
        self.tells([((2, 1), (2, 2)), ((2, 2), (2, 3))], clashes(book))

    def test_a_deed_that_saw_all_closes_the_slot(self):
        book = apart(("wish", (1, 0), "y"), ("wish", (1, 0), "z")).followed(3, [("wish", (1, 0), "w")])
        self.tells([(3, 3)], rivals_of(book, ("wish", (1, 0))))
        self.assertIs(False, is_open(book, ("wish", (1, 0))))
        self.tells([], open_slots(book))
        self.tells([], clashes_now(book=book))
        self.tells([((2, 1), (2, 2))], clashes(book=book))

    def test_one_that_saw_some_leaves_the_others(self):
        book = apart(("wish", (1, 0), "y"), ("wish", (1, 0), "z"))
        book = book.with_deeds([deed(3, 3, (1, 2, 0, 0), "wish", (1, 0), "w")])
        self.tells([(2, 2), (3, 3)], rivals_of(book, ("wish", (1, 0))))
        self.tells([(("wish", (1, 0)), [(2, 2), (3, 3)])], clashes_now(book))
        self.tells([((2, 1), (2, 2)), ((2, 2), (3, 3))], clashes(book))

    def test_like_writes_are_no_clash(self):
        for bodies in ((("wish", (1, 0), "y"),) * 2, (("drop", (1, 0)),) * 2, (("move", (1, 0), ROOT, 4),) * 3):
            book = apart(*bodies)
            slot = slot_of(book[(2, 1)])
            self.tells([slot], open_slots(book=book))
            self.tells([], clashes_now(book))
            self.tells([], clashes(book))

    def test_unlike_places(self):
        slot = ("place", (1, 0))
        for bodies in ((("drop", (1, 0)), ("move", (1, 0), ROOT, 4)),
                       (("move", (1, 0), ROOT, 5), ("move", (1, 0), ROOT, 4))):
            book = apart(*bodies)
            self.tells([(slot, [(2, 1), (2, 2)])], clashes_now(book))
            self.tells([((2, 1), (2, 2))], clashes(book))

    def test_a_clash_may_stand_last(self):
        book = apart(("wish", (1, 0), "y"), ("wish", (1, 0), "y"), ("wish", (1, 0), "z"))
        self.tells([(("wish", (1, 0)), [(2, 1), (2, 2), (2, 3)])], clashes_now(book))
        self.tells([((2, 2), (2, 3))], clashes(book))

    def test_none_points_unlike_a_binder(self):
        made = (("make", "use", ROOT, 0, None), LET)
        book = apart(("point", (1, 0), None), ("point", (1, 0), (2, 0)), made=made)
        self.tells([(("point", (1, 0)), [(3, 1), (3, 2)])], clashes_now(book))
        self.tells([], clashes_now(apart(("point", (1, 0), None), ("point", (1, 0), None), made=made)))

    def test_contents_that_a_make_brings_are_no_rivals(self):
        book = Book([deed(1, 0, 0, *LET), deed(2, 1, 1, "wish", (1, 0), "y")])
        self.tells([(2, 1)], rivals_of(book, ("wish", (1, 0))))
        self.tells([(1, 0)], rivals_of(book, ("place", (1, 0))))

    def test_gone_rings_and_undone_deeds_are_no_rivals(self):
        book = apart(("set", (1, 0), 4), ("wish", (1, 0), "y"), ("move", (1, 0), (1, 0), 0))
        self.tells([], open_slots(book))
        book = apart(("wish", (1, 0), "z"), ("wish", (1, 0), "y"))
        book = book.with_deeds([deed(3, 1, (1, 2, 0, 0), "undo", (2, 1))])
        self.tells([], open_slots(book))
        self.tells([(2, 2)], rivals_of(book, ("wish", (1, 0))))
        self.tells([], clashes(book))

    def test_slots_are_ordered_by_words_then_by_things(self):
        made = (LET, ("make", "number", ROOT, 0, 1), ("make", "use", ROOT, 0, None), LET)
        bodies = [[("set", (2, 0), at), ("point", (3, 0), (at, 0)), ("wish", (4, 0), "ab"[at - 1]),
                   ("wish", (1, 0), "cd"[at - 1]), ("move", (3, 0), ROOT, at), ("move", (1, 0), ROOT, at)]
                  for at in (1, 2)]
        deeds = []
        for hand in (1, 2):
            for at, body in enumerate(bodies[hand - 1]):
                seen = [4, 0, 0, 0]
                seen[hand] = at + 4 if at else 0
                deeds.append(((at + 5, hand), tuple(seen), body))
        book = Book().followed(0, made).with_deeds(deeds)
        slots = [("place", (1, 0)), ("place", (3, 0)), ("wish", (1, 0)), ("wish", (4, 0)), ("point", (3, 0)),
                 ("set", (2, 0))]
        self.tells(slots, open_slots(book))
        times = [10, 9, 8, 7, 6, 5]
        self.tells([(slot, [(time, 1), (time, 2)]) for slot, time in zip(slots, times)], clashes_now(book))
        self.tells([((time, 1), (time, 2)) for time in times[::-1]], clashes(book))

    def test_no_book(self):
        for value in (*STRANGE, []):
            for call in (open_slots, clashes_now, clashes):
                self.refused(NoBook, value, call, value)
        for call in (open_slots, clashes_now, clashes):
            self.tells([], call(Book()))


class RandomTest(Case):
    def test_random_books(self):
        order = ["place", "wish", "point", "set"]
        for seed in range(60):
            deeds = random_deeds(seed, 40, meeting=0.3 if seed % 2 else 0.5)
            book = Book(deeds)
            model = Model(deeds)
            slots = sorted({model.slot(stamp) for stamp in model.ordinary},
                           key=lambda slot: (order.index(slot[0]), slot[1]))
            opened = [slot for slot in slots if len(model.rivals(slot)) > 1]
            self.tells(opened, open_slots(book))
            for slot in slots:
                self.tells(model.done(slot), done_of(book, slot))
                self.tells(model.rivals(slot), rivals_of(book, slot))
                self.assertIs(slot in opened, is_open(book, slot))
            now = [(slot, model.rivals(slot)) for slot in opened
                   if len({repr(model.writes(stamp)) for stamp in model.rivals(slot)}) > 1]
            self.tells(now, clashes_now(book))
            fates = {stamp: model.fate(stamp) for stamp in model.ordinary}
            over = [(stamp, fate[1]) for stamp, fate in fates.items()
                    if fate[0] == "overruled" and model.writes(stamp) != model.writes(fate[1])]
            self.tells(over, clashes(book))
            for stamp in model.ordinary:
                self.tells(model.slot(stamp), slot_of(book[stamp]))
