"""Point [4] and section marks.py."""

from sharedscopes.books import Book
from sharedscopes.branches import all_branches, all_of
from sharedscopes.errors import NoBook, NoBranch, NoHand, NoStamp, NoStamps
from sharedscopes.marks import (
    alive_deeds, alive_without, does_count, does_turn, line_of, marks_of, marks_to, next_redo, next_undo)
from tests.model import Model
from tests.samples import NOTHING, ROOT, STRANGE, Case, random_deeds

BLOCK = ("make", "block", ROOT, 0, None)


def followed(*bodies):
    """The book of hand 0 with these bodies, at times 1 and on."""
    return Book().followed(0, bodies)


class CountingTest(Case):
    def setUp(self):
        # Hand 1 undoes a deed of hand 0, an own one, and an own mark.
        self.book = followed(BLOCK).followed(1, [BLOCK, ("undo", (1, 0)), ("undo", (2, 1)), ("undo", (4, 1)),
                                                 ("redo", (4, 1)), ("redo", (2, 1))])

    def test_marks_that_count_name_ordinary_deeds_of_their_hand(self):
        self.tells([False, False, False, True, False, False, True],
                   [does_count(self.book, stamp) for stamp in self.book])
        self.assertIs(True, does_count(book=self.book, stamp=(4, 1)))

    def test_marks_that_do_not_count_change_nothing(self):
        self.tells([(1, 0), (2, 1)], alive_deeds(self.book))
        self.tells([(1, 0), (2, 1)], alive_deeds(book=followed(BLOCK).followed(1, [BLOCK, ("undo", (1, 0))])))
        self.tells([], alive_deeds(followed(BLOCK, ("undo", (1, 0)), ("undo", (2, 0)), ("redo", (2, 0)))))

    def test_marks_that_turn(self):
        self.tells([False, False, False, True, False, False, True],
                   [does_turn(self.book, stamp) for stamp in self.book])
        book = followed(BLOCK, ("redo", (1, 0)), ("undo", (1, 0)), ("undo", (1, 0)), ("redo", (1, 0)),
                        ("redo", (1, 0)), ("undo", (1, 0)))
        self.tells([False, True, True, True, True, True, True], [does_count(book, stamp) for stamp in book])
        self.tells([False, False, True, False, True, False, True], [does_turn(book, stamp) for stamp in book])
        self.assertIs(True, does_turn(book=book, stamp=(3, 0)))

    def test_marks_of_one_deed_do_not_turn_another(self):
        book = followed(BLOCK, BLOCK, ("undo", (1, 0)), ("redo", (2, 0)), ("undo", (2, 0)))
        self.tells([False, False, True, False, True], [does_turn(book, stamp) for stamp in book])

    def test_the_last_mark_decides(self):
        self.tells([(1, 0)], alive_deeds(followed(BLOCK)))
        self.tells([], alive_deeds(followed(BLOCK, ("undo", (1, 0)))))
        self.tells([(1, 0)], alive_deeds(followed(BLOCK, ("undo", (1, 0)), ("redo", (1, 0)))))
        self.tells([(1, 0)], alive_deeds(followed(BLOCK, ("redo", (1, 0)))))
        self.tells([], alive_deeds(followed(BLOCK, ("redo", (1, 0)), ("undo", (1, 0)))))
        self.tells([(2, 0)], alive_deeds(followed(BLOCK, BLOCK, ("undo", (1, 0)))))
        self.tells([], alive_deeds(Book()))

    def test_wrong_values(self):
        for value in STRANGE:
            for call in (does_count, does_turn, alive_without):
                self.refused(NoBook, value, call, value, None)
            self.refused(NoBook, value, alive_deeds, value)
        for value in (*STRANGE, ROOT, (1, 1), (2, 0)):
            for call in (does_count, does_turn):
                self.refused(NoStamp, value, call, self.book, value)


class WithoutTest(Case):
    def setUp(self):
        self.book = followed(BLOCK, BLOCK, ("undo", (1, 0)), ("redo", (1, 0)), ("undo", (2, 0)))

    def test_as_if_the_deeds_were_not_there(self):
        self.tells([(1, 0)], alive_without(self.book, []))
        self.tells([], alive_without(self.book, [(1, 0)]))
        self.tells([(1, 0)], alive_without(self.book, ((2, 0),)))
        self.tells([(1, 0)], alive_without(self.book, [(3, 0)]))
        self.tells([], alive_without(self.book, [(4, 0)]))
        self.tells([(1, 0), (2, 0)], alive_without(book=self.book, stamps=[(5, 0), (4, 0), (3, 0)]))
        self.tells([(2, 0)], alive_without(self.book, [(5, 0), (4, 0)]))
        self.tells([], alive_without(self.book, self.book.listed()))

    def test_wrong_values(self):
        self.refuses_stamps(NoStamps, lambda stamps: alive_without(self.book, stamps), self.book)


class LineTest(Case):
    def line(self, expected, book, hand=0):
        self.tells(expected, line_of(book, hand))
        done, undone = expected
        self.tells(done[-1] if done else None, next_undo(book, hand))
        self.tells(undone[0] if undone else None, next_redo(book, hand))

    def test_done_deeds(self):
        self.line(((), ()), Book())
        self.line(((), ()), Book(), 3)
        self.line((((1, 0), (2, 0)), ()), followed(BLOCK, BLOCK))
        self.line(((), ()), followed(BLOCK, BLOCK), 1)
        self.tells((((1, 0),), ()), line_of(book=followed(BLOCK), hand=0))

    def test_undone_deeds_the_last_undone_first(self):
        self.line((((1, 0),), ((2, 0), (3, 0))),
                  followed(BLOCK, BLOCK, BLOCK, ("undo", (3, 0)), ("undo", (2, 0))))
        self.line((((2, 0),), ((1, 0), (3, 0))),
                  followed(BLOCK, BLOCK, BLOCK, ("undo", (3, 0)), ("undo", (1, 0))))
        self.tells((3, 0), next_undo(book=followed(BLOCK, BLOCK, BLOCK), hand=0))
        self.tells((1, 0), next_redo(book=followed(BLOCK, ("undo", (1, 0))), hand=0))

    def test_redone_deeds_are_alive_since_their_redo(self):
        self.line((((2, 0), (1, 0)), ()), followed(BLOCK, BLOCK, ("undo", (1, 0)), ("redo", (1, 0))))
        self.line((((2, 0), (3, 0), (1, 0)), ()),
                  followed(BLOCK, BLOCK, BLOCK, ("undo", (1, 0)), ("redo", (1, 0))))
        self.line((((2, 0), (1, 0), (5, 0)), ()), followed(BLOCK, BLOCK, ("undo", (1, 0)), ("redo", (1, 0)), BLOCK))

    def test_an_ordinary_deed_behind_an_undo_ends_what_can_be_redone(self):
        self.line((((1, 0), (4, 0)), ()), followed(BLOCK, BLOCK, ("undo", (2, 0)), BLOCK))
        self.line((((1, 0),), ((4, 0),)), followed(BLOCK, BLOCK, ("undo", (2, 0)), BLOCK, ("undo", (4, 0))))
        self.line(((), ((1, 0), (4, 0))),
                  followed(BLOCK, BLOCK, ("undo", (2, 0)), BLOCK, ("undo", (4, 0)), ("undo", (1, 0))))

    def test_idle_marks_do_not_tell_since_when(self):
        # (1, 0) is undone since (2, 0), ahead of the last ordinary deed; the later undo is idle.
        self.line((((3, 0),), ()), followed(BLOCK, ("undo", (1, 0)), BLOCK, ("undo", (1, 0))))
        # The redo of what is alive is idle.
        self.line((((1, 0), (2, 0)), ()), followed(BLOCK, BLOCK, ("redo", (1, 0))))
        self.line(((), ((1, 0), (2, 0))),
                  followed(BLOCK, BLOCK, ("undo", (2, 0)), ("undo", (1, 0)), ("undo", (2, 0))))

    def test_an_undone_ordinary_deed_ends_it_too(self):
        self.line((((2, 0),), ((4, 0),)), followed(BLOCK, BLOCK, ("undo", (1, 0)), BLOCK, ("undo", (4, 0))))

    def test_what_is_undone_again_is_undone_since_the_last_time(self):
        self.line((((3, 0),), ((1, 0), (2, 0))),
                  followed(BLOCK, BLOCK, BLOCK, ("undo", (1, 0)), ("undo", (2, 0)), ("redo", (1, 0)),
                           ("undo", (1, 0))))

    def test_each_hand_has_its_own(self):
        book = followed(BLOCK, BLOCK).followed(1, [BLOCK, ("undo", (2, 0)), ("undo", (3, 1))])
        book = book.followed(0, [("undo", (1, 0)), ("undo", (3, 1))])
        self.line((((2, 0),), ((1, 0),)), book)
        self.line(((), ((3, 1),)), book, 1)
        self.line(((), ()), book, 2)

    def test_ordinary_deeds_of_other_hands_do_not_matter(self):
        book = followed(BLOCK, ("undo", (1, 0))).followed(1, [BLOCK])
        self.line(((), ((1, 0),)), book)

    def test_wrong_values(self):
        for call in (line_of, next_undo, next_redo):
            for value in STRANGE:
                self.refused(NoBook, value, call, value, 9)
                if value.__class__ is not int or not 0 <= value <= 3:
                    self.refused(NoHand, value, call, followed(BLOCK), value)
            self.refused(NoHand, 4, call, followed(BLOCK), 4)

    def test_random_books(self):
        for seed in range(60):
            deeds = random_deeds(seed, 40, hands=seed % 4 + 1)
            book = Book(deeds)
            model = Model(deeds)
            self.tells(model.alive, alive_deeds(book))
            self.tells([model.counts(stamp) for stamp in book], [does_count(book, stamp) for stamp in book])
            self.tells([model.turns(stamp) for stamp in book], [does_turn(book, stamp) for stamp in book])
            for hand in range(4):
                self.tells(model.line(hand), line_of(book, hand))
            left = book.listed()[seed % 3::3]
            self.tells(Model(deeds, left).alive, alive_without(book, left[::-1]))


class MarksToTest(Case):
    def setUp(self):
        self.book = followed(BLOCK, BLOCK).followed(1, [BLOCK]).followed(0, [("undo", (1, 0)), BLOCK]).followed(
            1, [("undo", (3, 1))])

    def test_marks_to_a_branch(self):
        self.tells([], marks_to(self.book, all_of(self.book)))
        self.tells([("undo", (2, 0)), ("undo", (5, 0))], marks_to(self.book, NOTHING))
        self.tells([("redo", (1, 0)), ("redo", (3, 1)), ("undo", (5, 0))], marks_to(self.book, (2, 3, 0, 0)))
        self.tells([("redo", (3, 1))], marks_to(book=self.book, branch=(5, 3, 0, 0)))
        self.tells([("redo", (1, 0)), ("undo", (2, 0)), ("undo", (5, 0))], marks_to(self.book, (1, 0, 0, 0)))

    def test_marks_of_one_hand(self):
        self.tells([("redo", (1, 0)), ("undo", (5, 0))], marks_of(self.book, (2, 3, 0, 0), 0))
        self.tells([("redo", (3, 1))], marks_of(book=self.book, branch=(2, 3, 0, 0), hand=1))
        self.tells([], marks_of(self.book, (2, 3, 0, 0), 2))

    def test_made_behind_all_they_make_just_the_branch_alive(self):
        for seed in range(12):
            book = Book(random_deeds(seed, 14, hands=2 + seed % 3, meeting=0.5))
            for branch in all_branches(book):
                after = book
                for hand in range(4):
                    after = after.followed(hand, marks_of(book, branch, hand))
                alive = [stamp for stamp in book if stamp[0] <= branch[stamp[1]]]
                model = Model([book[stamp] for stamp in alive])
                self.tells(model.alive, alive_deeds(after))
                marks = [mark for hand in range(4) for mark in marks_of(book, branch, hand)]
                self.tells(sorted(marks, key=lambda mark: mark[1]), marks_to(book, branch))

    def test_wrong_values(self):
        for value in STRANGE:
            self.refused(NoBook, value, marks_to, value, None)
            self.refused(NoBook, value, marks_of, value, None, None)
        for value in (*STRANGE, (4, 0, 0, 0), (5, 2, 0, 0), [0, 0, 0, 0], (False, 0, 0, 0), (3, 0, 0, 0)):
            self.refused(NoBranch, value, marks_to, self.book, value)
            self.refused(NoBranch, value, marks_of, self.book, value, None)
        for value in (*STRANGE, 4):
            if value.__class__ is not int or not 0 <= value <= 3:
                self.refused(NoHand, value, marks_of, self.book, NOTHING, value)
