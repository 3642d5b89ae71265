"""Point [8] and section fates.py."""

import itertools
import random

from sharedscopes.books import Book
from sharedscopes.errors import NoBook, NoStamp, NoStamps
from sharedscopes.fates import accepts_gone, fate_of, fates_of, gone_paper
from tests.model import Model
from tests.samples import ROOT, STRANGE, Case, deed, random_deeds

BLOCK = ("make", "block", ROOT, 0, None)
LET = ("make", "let", ROOT, 0, "x")
NUMBER = ("make", "number", ROOT, 0, 5)


def under(thing):
    return ("make", "block", thing, 0, None)


def followed(*bodies):
    return Book().followed(0, bodies)


class FateTest(Case):
    def fates(self, expected, book):
        self.tells(expected, fates_of(book))
        for stamp, fate in expected.items():
            self.tells(fate, fate_of(book, stamp))

    def test_empty(self):
        self.tells({}, fates_of(Book()))
        self.tells({}, fates_of(book=Book(), without=()))

    def test_stands(self):
        self.fates({(1, 0): ("stands", None), (2, 0): ("stands", None)}, followed(BLOCK, LET))
        self.tells(("stands", None), fate_of(book=followed(BLOCK), stamp=(1, 0)))

    def test_undone_tells_the_last_mark_that_counts(self):
        self.fates({(1, 0): ("undone", (2, 0))}, followed(BLOCK, ("undo", (1, 0))))
        self.fates({(1, 0): ("undone", (3, 0))}, followed(BLOCK, ("undo", (1, 0)), ("undo", (1, 0))))
        self.fates({(1, 0): ("undone", (4, 0))}, followed(BLOCK, ("undo", (1, 0)), ("redo", (1, 0)), ("undo", (1, 0))))
        self.fates({(1, 0): ("stands", None)}, followed(BLOCK, ("undo", (1, 0)), ("redo", (1, 0))))
        book = followed(BLOCK, ("undo", (1, 0))).followed(1, [("redo", (1, 0)), ("undo", (1, 0))])
        self.fates({(1, 0): ("undone", (2, 0))}, book)

    def test_undone_comes_ahead_of_gone(self):
        self.fates({(1, 0): ("undone", (2, 0))}, followed(("drop", ROOT), ("undo", (1, 0))))

    def test_gone(self):
        self.fates({(1, 0): ("gone", None), (2, 0): ("gone", None)}, followed(("drop", ROOT), under((1, 0))))
        self.fates({(1, 0): ("undone", (3, 0)), (2, 0): ("gone", None)},
                   followed(BLOCK, under((1, 0)), ("undo", (1, 0))))

    def test_a_ring_tells_the_greatest_stamp_on_its_chain_apart_from_it(self):
        made = [deed(1, 0, 0, *BLOCK), deed(2, 0, 1, *BLOCK), deed(3, 0, 2, *BLOCK)]
        one = deed(4, 1, 3, "move", (2, 0), (1, 0), 0)
        two = deed(4, 2, 3, "move", (3, 0), (2, 0), 0)
        ring = deed(5, 3, 3, "move", (1, 0), (3, 0), 0)
        book = Book([*made, one, two, ring])
        self.tells(("ring", (4, 2)), fate_of(book, (5, 3)))
        seen = deed(5, 3, (3, 0, 4, 0), "move", (1, 0), (3, 0), 0)
        self.tells(("ring", (4, 1)), fate_of(Book([*made, one, two, seen]), (5, 3)))
        all_seen = deed(5, 3, (3, 4, 4, 0), "move", (1, 0), (3, 0), 0)
        self.tells(("ring", None), fate_of(Book([*made, one, two, all_seen]), (5, 3)))

    def test_a_ring_with_nothing_apart(self):
        self.fates({(1, 0): ("stands", None), (2, 0): ("stands", None), (3, 0): ("ring", None), (4, 0): ("ring", None)},
                   followed(BLOCK, under((1, 0)), ("move", (1, 0), (2, 0), 0), ("move", (1, 0), (1, 0), 0)))

    def test_replaced_and_overruled(self):
        book = followed(LET, ("wish", (1, 0), "y"), ("wish", (1, 0), "y"), ("move", (1, 0), ROOT, 0))
        self.fates({(1, 0): ("replaced", (4, 0)), (2, 0): ("replaced", (3, 0)), (3, 0): ("stands", None),
                    (4, 0): ("stands", None)}, book)
        book = Book([deed(1, 0, 0, *LET), deed(2, 0, 1, "wish", (1, 0), "y"), deed(3, 1, 1, "wish", (1, 0), "z"),
                     deed(4, 0, (2, 3, 0, 0), "wish", (1, 0), "w")])
        self.fates({(1, 0): ("stands", None), (2, 0): ("overruled", (3, 1)), (3, 1): ("replaced", (4, 0)),
                    (4, 0): ("stands", None)}, book)

    def test_only_done_deeds_of_the_slot_replace(self):
        book = followed(LET, ("wish", (1, 0), "y"), ("set", (1, 0), 3), ("wish", (1, 0), "z"), ("undo", (4, 0)),
                        ("move", (1, 0), (1, 0), 0))
        self.fates({(1, 0): ("stands", None), (2, 0): ("stands", None), (3, 0): ("gone", None),
                    (4, 0): ("undone", (5, 0)),
                    (6, 0): ("ring", None)}, book)

    def test_a_drop_and_a_move_write_to_one_slot(self):
        book = followed(BLOCK, ("drop", (1, 0)), ("move", (1, 0), ROOT, 0))
        self.fates({(1, 0): ("replaced", (2, 0)), (2, 0): ("replaced", (3, 0)), (3, 0): ("stands", None)}, book)

    def test_without(self):
        book = followed(BLOCK, under((1, 0)), ("undo", (1, 0)), ("redo", (1, 0)), ("undo", (1, 0)), ("drop", (2, 0)))
        self.tells({(1, 0): ("undone", (5, 0)), (2, 0): ("gone", None), (6, 0): ("gone", None)}, fates_of(book))
        self.tells({(1, 0): ("stands", None), (2, 0): ("replaced", (6, 0)), (6, 0): ("stands", None)},
                   fates_of(book, without=[(5, 0)]))
        self.tells({(1, 0): ("undone", (3, 0)), (2, 0): ("gone", None), (6, 0): ("gone", None)},
                   fates_of(book, ((5, 0), (4, 0))))
        self.tells({(2, 0): ("gone", None), (6, 0): ("gone", None)}, fates_of(book, [(1, 0)]))
        self.tells({(1, 0): ("stands", None), (2, 0): ("stands", None)}, fates_of(book, [(6, 0), (5, 0)]))
        self.tells({}, fates_of(book, book.listed()))

    def test_wrong_values(self):
        book = followed(BLOCK, LET, ("undo", (1, 0)), ("redo", (3, 0)))
        for value in (*STRANGE, []):
            for call in (fate_of, fates_of, gone_paper, accepts_gone):
                self.refused(NoBook, value, call, value, None)
        for value in (*STRANGE, ROOT, (3, 0), (4, 0), (5, 0), (1, 1)):
            self.refused(NoStamp, value, fate_of, book, value)
        self.refuses_stamps(NoStamps, lambda stamps: fates_of(book, stamps), book)

    def test_new_dicts_each_time(self):
        book = followed(BLOCK)
        fates_of(book).clear()
        self.tells({(1, 0): ("stands", None)}, fates_of(book))

    def test_random_books(self):
        for seed in range(60):
            deeds = random_deeds(seed, 40, hands=seed % 4 + 1, meeting=0.5 if seed % 2 else 0.2)
            random.Random(seed).shuffle(deeds)
            book = Book(deeds)
            for left in ((), tuple(book.listed()[seed % 5::5])):
                model = Model(deeds, left)
                self.tells({stamp: model.fate(stamp) for stamp in model.ordinary}, fates_of(book, left))


class PaperTest(Case):
    def paper(self, expected, book, stamp):
        told = None if expected is None else ("gone", expected)
        self.tells(told, gone_paper(book, stamp))
        if told is not None:
            self.assertIs(True, accepts_gone(book, told))

    def test_deeds_that_are_not_gone_have_none(self):
        book = followed(BLOCK, ("undo", (1, 0)), ("redo", (1, 0)), ("move", (1, 0), (1, 0), 0), ("drop", ROOT),
                        ("undo", (5, 0)))
        for stamp in book:
            self.paper(None, book, stamp)
        self.tells(None, gone_paper(book=book, stamp=(1, 0)))

    def test_a_make_that_is_not_alive(self):
        book = followed(BLOCK, under((1, 0)), under((2, 0)), ("drop", (3, 0)), ("undo", (1, 0)))
        self.paper(((2, 0), (1, 0)), book, (2, 0))
        self.paper(((3, 0), (2, 0), (1, 0)), book, (3, 0))
        self.paper(((4, 0), (3, 0), (2, 0), (1, 0)), book, (4, 0))
        self.tells(("gone", ((2, 0), (1, 0))), gone_paper(book=book, stamp=(2, 0)))

    def test_it_ends_at_the_first_that_is_not_alive(self):
        book = followed(BLOCK, under((1, 0)), under((2, 0)), ("undo", (1, 0)), ("undo", (2, 0)))
        self.paper(((3, 0), (2, 0)), book, (3, 0))
        self.assertIs(False, accepts_gone(book, ("gone", ((3, 0), (2, 0), (1, 0)))))
        self.assertIs(False, accepts_gone(book, ("gone", ((2, 0), (1, 0)))))
        self.assertIs(False, accepts_gone(book, ("gone", ((2, 0),))))
        self.assertIs(False, accepts_gone(book, ("gone", ((1, 0),))))

    def test_thing_is_followed_ahead_of_under(self):
        book = followed(BLOCK, BLOCK, ("move", (2, 0), (1, 0), 0), ("undo", (1, 0)), ("undo", (2, 0)))
        self.paper(((3, 0), (2, 0)), book, (3, 0))
        self.assertIs(True, accepts_gone(book, ("gone", ((3, 0), (1, 0)))))
        book = followed(BLOCK, BLOCK, ("move", (2, 0), (1, 0), 0), ("undo", (1, 0)))
        self.paper(((3, 0), (1, 0)), book, (3, 0))
        self.assertIs(False, accepts_gone(book, ("gone", ((3, 0), (2, 0)))))

    def test_gone_by_kind(self):
        book = followed(NUMBER, LET, ("make", "use", ROOT, 0, None), under((1, 0)), ("move", (2, 0), (3, 0), 0),
                        ("move", ROOT, (2, 0), 0), ("drop", ROOT), ("wish", (1, 0), "y"), ("point", (2, 0), None),
                        ("set", (3, 0), 5), ("wish", ROOT, "y"), ("point", ROOT, ROOT), ("set", ROOT, 5),
                        ("set", (2, 0), 5), ("point", (1, 0), None), ("wish", (3, 0), "z"))
        for time in range(4, 17):
            self.paper(((time, 0),), book, (time, 0))
        for time in range(1, 4):
            self.paper(None, book, (time, 0))
            self.assertIs(False, accepts_gone(book, ("gone", ((time, 0),))))

    def test_stamps_of_no_make(self):
        book = followed(BLOCK, ("drop", (1, 0)), ("undo", (2, 0)), under((2, 0)), ("move", (1, 0), (3, 0), 0),
                        ("move", (3, 0), (1, 0), 0), ("drop", (2, 0)), ("wish", (2, 0), "x"), ("point", (3, 0), None),
                        ("set", (3, 0), 1))
        for time in range(4, 11):
            self.paper(((time, 0),), book, (time, 0))
        self.assertIs(False, accepts_gone(book, ("gone", ((4, 0), (2, 0)))))
        self.assertIs(False, accepts_gone(book, ("gone", ((5, 0), (3, 0)))))

    def test_a_binder_is_no_thing(self):
        book = followed(BLOCK, ("make", "use", ROOT, 0, (1, 0)), ("point", (2, 0), (1, 0)), ("undo", (1, 0)))
        self.paper(None, book, (2, 0))
        self.paper(None, book, (3, 0))
        self.assertIs(False, accepts_gone(book, ("gone", ((2, 0), (1, 0)))))
        self.assertIs(False, accepts_gone(book, ("gone", ((3, 0), (1, 0)))))

    def test_a_missing_make_is_followed_ahead_of_the_kind(self):
        book = followed(BLOCK, NUMBER, ("move", (1, 0), (2, 0), 0), ("undo", (1, 0)))
        self.paper(((3, 0), (1, 0)), book, (3, 0))
        self.assertIs(True, accepts_gone(book, ("gone", ((3, 0),))))
        book = followed(BLOCK, ("drop", (1, 0)), ("move", (2, 0), (1, 0), 0), ("move", ROOT, (1, 0), 0),
                        ("undo", (1, 0)))
        self.paper(((3, 0), (1, 0)), book, (3, 0))
        self.assertIs(True, accepts_gone(book, ("gone", ((3, 0),))))
        self.paper(((4, 0), (1, 0)), book, (4, 0))
        self.assertIs(True, accepts_gone(book, ("gone", ((4, 0),))))

    def test_a_missing_make_of_a_wrong_kind_is_not_there(self):
        book = followed(NUMBER, under((1, 0)), ("wish", (1, 0), "x"), ("undo", (1, 0)))
        self.paper(((2, 0), (1, 0)), book, (2, 0))
        self.paper(((3, 0), (1, 0)), book, (3, 0))
        self.assertIs(False, accepts_gone(book, ("gone", ((2, 0),))))
        self.assertIs(False, accepts_gone(book, ("gone", ((3, 0),))))

    def test_a_row_may_end_at_a_make_gone_by_its_kind(self):
        book = followed(NUMBER, under((1, 0)), under((2, 0)))
        self.paper(((2, 0),), book, (2, 0))
        self.paper(((3, 0), (2, 0)), book, (3, 0))
        self.assertIs(False, accepts_gone(book, ("gone", ((3, 0),))))
        self.assertIs(False, accepts_gone(book, ("gone", ((3, 0), (2, 0), (1, 0)))))

    def test_no_stamp(self):
        book = followed(BLOCK)
        for value in (*STRANGE, ROOT, (2, 0), (1, 1)):
            self.refused(NoStamp, value, gone_paper, book, value)


class AcceptsTest(Case):
    def setUp(self):
        self.book = followed(BLOCK, under((1, 0)), under((2, 0)), ("undo", (1, 0)))

    def test_right_ones(self):
        self.assertIs(True, accepts_gone(self.book, ("gone", ((2, 0), (1, 0)))))
        self.assertIs(True, accepts_gone(book=self.book, value=("gone", ((3, 0), (2, 0), (1, 0)))))

    def test_other_values(self):
        stamps = ((2, 0), (1, 0))
        for value in (*STRANGE, ["gone", stamps], ("gone", [*stamps]), ("gone",), ("gone", stamps, None),
                      ("Gone", stamps),
                      (b"gone", stamps), (None, stamps), ("gone", ()), ("gone", None), ("gone", (2, 0)), stamps,
                      ("gone", ([2, 0], (1, 0))), ("gone", ((2, 0), (True, 0))), ("gone", ((2, False), (1, 0))),
                      ("gone", ((2, 0), (1.0, 0))), ("gone", ((2, 0), None)), ("gone", ((2, 0), (9, 0))),
                      (stamps, "gone"),
                      ("gone", ((2, 0), ROOT)), ("gone", {(2, 0): 1}), (["gone"], stamps), ("undone", stamps)):
            self.assertIs(False, accepts_gone(self.book, value), value)
        for value in STRANGE:
            self.assertIs(False, accepts_gone(self.book, ("gone", value)))
            self.assertIs(False, accepts_gone(self.book, (value, stamps)))
            self.assertIs(False, accepts_gone(self.book, ("gone", (value,))))
            self.assertIs(False, accepts_gone(self.book, ("gone", ((2, 0), value))))

    def test_marks_have_no_paper(self):
        book = followed(BLOCK, ("undo", (1, 0)), ("undo", (2, 0)))
        for stamps in itertools.permutations(book.listed(), 2):
            self.assertIs(False, accepts_gone(book, ("gone", stamps)))
        for stamp in book:
            self.assertIs(False, accepts_gone(book, ("gone", (stamp,))))

    def test_rows_of_other_stamps(self):
        for many in range(1, 4):
            for stamps in itertools.product(self.book.listed(), repeat=many):
                right = stamps in (((2, 0), (1, 0)), ((3, 0), (2, 0), (1, 0)))
                self.assertIs(right, accepts_gone(self.book, ("gone", stamps)), stamps)

    def test_random_books(self):
        for seed in range(30):
            deeds = random_deeds(seed, 14, hands=seed % 3 + 1, meeting=0.5)
            book, model = Book(deeds), Model(deeds)
            for stamp in book:
                is_gone = model.outcomes.get(stamp) == "gone"
                self.tells(model.told_gone_paper(stamp) if is_gone else None, gone_paper(book, stamp))
            for many in range(1, 3):
                for stamps in itertools.product(book.listed(), repeat=many):
                    self.assertIs(model.is_gone_paper(stamps), accepts_gone(book, ("gone", stamps)), stamps)

    def test_told_papers_are_accepted_and_only_of_gone_deeds(self):
        for seed in range(40):
            deeds = random_deeds(seed, 40)
            book, model = Book(deeds), Model(deeds)
            for stamp in book:
                paper = gone_paper(book, stamp)
                self.assertIs(model.outcomes.get(stamp) == "gone", paper is not None)
                if paper is not None:
                    self.tells(model.told_gone_paper(stamp), paper)
                    self.assertIs(True, accepts_gone(book, paper))
                    for at in range(1, len(paper[1])):
                        cut = paper[1][:at]
                        self.assertIs(model.is_gone_paper(cut), accepts_gone(book, ("gone", cut)))
