"""Point [2] and section books.py."""

import random

from sharedscopes.books import Book, are_apart, has_seen
from sharedscopes.errors import NoBody, NoBook, NoHand, NoStamp, NotClosed, TooMany, Unseen
from tests.model import Model
from tests.samples import NOTHING, ROOT, STRANGE, Case, deed, random_deeds, row_of_blocks

BLOCK = ("make", "block", ROOT, 0, None)

ONE = deed(1, 0, 0, *BLOCK)
TWO = deed(2, 1, 1, "drop", (1, 0))
THREE = deed(3, 0, 1, "wish", (1, 0), "x")
FOUR = deed(4, 2, (3, 2, 0, 0), "undo", (2, 1))
ALL = [ONE, TWO, THREE, FOUR]


class MakingTest(Case):
    def test_empty(self):
        for book in (Book(), Book([]), Book(()), Book(deeds=[])):
            self.tells([], book.deeds())
            self.tells([], book.listed())
            self.tells(0, len(book))
            self.tells([0, 0, 0, 0], [book.last(hand) for hand in range(4)])

    def test_deeds_may_come_in_any_order(self):
        for deeds in (ALL, ALL[::-1], tuple(ALL), [THREE, FOUR, ONE, TWO]):
            book = Book(deeds)
            self.tells(ALL, book.deeds())
            self.tells([(1, 0), (2, 1), (3, 0), (4, 2)], book.listed())
            self.assertEqual(book, Book(ALL))

    def test_no_list_or_tuple(self):
        for value in (None, True, False, 0, 1, "", "a", {}, {ONE[0]: ONE}, set(), Book(), iter([]), range(0), object()):
            self.refused(NoBook, None, Book, value)
        self.refused(NoBook, None, Book, deeds=None)

    def test_the_first_that_is_no_deed(self):
        for value in STRANGE:
            self.refused(NoBook, 0, Book, [value, None])
            self.refused(NoBook, 2, Book, (TWO, ONE, value))
        self.refused(NoBook, 1, Book, [ONE, list(TWO)])
        self.refused(NoBook, 0, Book, ONE)
        self.refused(NoBook, 1, Book, [ONE, ((2, 0), (True, 0, 0, 0), ("drop", ROOT))])

    def test_the_first_whose_stamp_one_ahead_has(self):
        self.refused(NoBook, 1, Book, [ONE, ONE])
        self.refused(NoBook, 2, Book, [ONE, TWO, deed(1, 0, 0, "drop", ROOT), None])
        self.refused(NoBook, 1, Book, [TWO, None, TWO])
        self.refused(NoBook, 4, Book, [*ALL, TWO])

    def test_sixty_and_sixty_one(self):
        self.assertEqual(60, len(Book(row_of_blocks(60))))
        self.refused(TooMany, 60, Book, row_of_blocks(61))
        self.refused(TooMany, 60, Book, row_of_blocks(999))

    def test_no_deed_comes_ahead_of_too_many(self):
        self.refused(NoBook, 61, Book, [*row_of_blocks(61), None])
        self.refused(NoBook, 70, Book, [*row_of_blocks(70), ONE])

    def test_too_many_comes_ahead_of_not_closed_and_unseen(self):
        self.refused(TooMany, 60, Book, row_of_blocks(62)[1:])

    def test_entries_have_to_be_times_of_deeds(self):
        self.refused(NotClosed, (2, 1), Book, [TWO])
        self.refused(NotClosed, (5, 1), Book, [ONE, deed(3, 0, 1, *BLOCK), deed(5, 1, 2, *BLOCK)])
        self.refused(NotClosed, (5, 1), Book, [ONE, deed(5, 1, (1, 0, 0, 4), *BLOCK)])
        self.assertEqual(2, len(Book([ONE, deed(5, 1, (1, 0, 0, 0), *BLOCK)])))

    def test_the_own_entry_is_the_time_of_the_own_deed_ahead(self):
        self.refused(NotClosed, (3, 0), Book, [ONE, deed(3, 0, 0, *BLOCK)])
        self.refused(NotClosed, (3, 0), Book, [ONE, deed(2, 0, 1, *BLOCK), deed(3, 0, 1, *BLOCK)])
        self.refused(NotClosed, (3, 1), Book, [deed(3, 1, (0, 2, 0, 0), *BLOCK)])
        self.refused(NotClosed, (2, 3), Book, [deed(1, 3, 0, *BLOCK), deed(2, 3, 0, *BLOCK)])
        self.assertEqual(2, len(Book([deed(1, 3, 0, *BLOCK), deed(2, 3, (0, 0, 0, 1), *BLOCK)])))

    def test_what_a_seen_deed_had_seen_is_seen(self):
        self.refused(NotClosed, (4, 2), Book, [ONE, TWO, deed(4, 2, (0, 2, 0, 0), *BLOCK)])
        self.assertEqual(3, len(Book([ONE, TWO, deed(4, 2, (1, 2, 0, 0), *BLOCK)])))
        late = deed(5, 1, (1, 2, 0, 0), *BLOCK)
        self.refused(NotClosed, (6, 1), Book, [ONE, THREE, deed(2, 1, 1, *BLOCK), deed(4, 1, (3, 2, 0, 0), *BLOCK),
                                               deed(6, 1, (1, 4, 0, 0), *BLOCK)])
        self.assertEqual(3, len(Book([ONE, TWO, late])))

    def test_a_body_names_only_what_is_seen(self):
        self.refused(Unseen, (2, 1), Book, [ONE, deed(2, 1, 0, "drop", (1, 0))])
        self.refused(Unseen, (2, 0), Book, [ONE, deed(2, 0, 1, "drop", (2, 0))])
        self.refused(Unseen, (2, 0), Book, [ONE, deed(2, 0, 1, "move", (1, 0), (3, 0), 0)])
        self.refused(Unseen, (2, 0), Book, [ONE, deed(2, 0, 1, "make", "use", (1, 0), 0, (7, 3))])
        self.refused(Unseen, (4, 0), Book, [ONE, deed(3, 0, 1, *BLOCK), deed(4, 0, 3, "undo", (2, 0))])
        self.refused(Unseen, (1, 0), Book, [deed(1, 0, 0, "redo", (1, 0))])
        self.refused(Unseen, (2, 0), Book, [ONE, deed(2, 0, 1, "point", (1, 0), (1, 1))])
        self.refused(Unseen, (3, 0), Book, [ONE, deed(1, 1, 0, *BLOCK), deed(3, 0, 1, "point", (1, 0), (1, 1))])

    def test_the_root_may_be_named(self):
        self.assertEqual(1, len(Book([deed(1, 0, 0, "move", ROOT, ROOT, 0)])))
        self.assertEqual(1, len(Book([deed(1, 0, 0, "point", ROOT, ROOT)])))

    def test_deed_by_deed_by_stamps(self):
        unseen = deed(2, 1, 0, "drop", (1, 0))
        not_closed = deed(3, 0, 0, *BLOCK)
        self.refused(Unseen, (2, 1), Book, [not_closed, unseen, ONE])
        self.refused(NotClosed, (2, 0), Book, [deed(3, 1, 0, "drop", (1, 0)), deed(2, 0, 0, *BLOCK), ONE])
        self.refused(NotClosed, (2, 0), Book, [ONE, deed(2, 0, 0, "drop", (1, 1))])

    def test_times_up_to_999(self):
        book = Book([deed(1, 3, 0, *BLOCK), deed(999, 0, (0, 0, 0, 1), "drop", (1, 3))])
        self.tells([999, 0, 0, 1], [book.last(hand) for hand in range(4)])

    def test_later_changes_of_the_list_change_nothing(self):
        deeds = [ONE, TWO]
        book = Book(deeds)
        deeds.append(THREE)
        deeds[0] = None
        self.tells([ONE, TWO], book.deeds())


class AskingTest(Case):
    def setUp(self):
        self.book = Book(ALL)

    def test_deeds_and_stamps(self):
        self.tells(ALL, self.book.deeds())
        self.tells([(1, 0), (2, 1), (3, 0), (4, 2)], list(self.book))
        self.tells([(1, 0), (2, 1), (3, 0), (4, 2)], [stamp for stamp in self.book])
        self.tells([(1, 0), (2, 1), (3, 0), (4, 2)], self.book.listed())
        self.tells(4, len(self.book))

    def test_new_lists_each_time(self):
        self.book.deeds().clear()
        self.book.listed().clear()
        self.test_deeds_and_stamps()

    def test_item(self):
        self.tells(TWO, self.book[(2, 1)])
        self.tells(FOUR, self.book[4, 2])
        for value in (*STRANGE, ROOT, (2, 0), (1, 1), (5, 0), ONE, slice(0, 1)):
            with self.assertRaises(NoStamp) as caught:
                self.book[value]
            self.assertIs(value, caught.exception.told)

    def test_in(self):
        for stamp in ((1, 0), (2, 1), (3, 0), (4, 2)):
            self.assertIs(True, stamp in self.book)
        for value in (*STRANGE, ROOT, (2, 0), (1, 1), (5, 0), ONE, (True, 0), (1, False), (1.0, 0), [1, 0]):
            self.assertIs(False, value in self.book, value)
            self.assertIs(True, value not in self.book)

    def test_last(self):
        self.tells([3, 2, 4, 0], [self.book.last(hand) for hand in range(4)])
        self.tells(3, self.book.last(hand=0))
        for value in (*STRANGE, 4, -1, True, False, None, 0.0):
            if value.__class__ is not int or not 0 <= value <= 3:
                self.refused(NoHand, value, self.book.last, value)

    def test_equality(self):
        self.assertTrue(self.book == Book(ALL[::-1]))
        self.assertFalse(self.book != Book(ALL))
        self.assertFalse(self.book == Book(ALL[:3]))
        self.assertTrue(self.book != Book(ALL[:3]))
        self.assertFalse(self.book == Book([ONE, TWO, THREE, deed(4, 2, (3, 2, 0, 0), "redo", (2, 1))]))
        self.assertTrue(Book() == Book([]))
        for value in (ALL, tuple(ALL), self.book.listed(), None, 4, True, object()):
            self.assertFalse(self.book == value)
            self.assertTrue(self.book != value)
        self.assertFalse(Book() == [])


class MoreTest(Case):
    def test_a_new_book_of_all(self):
        book = Book(ALL[:2])
        self.tells(ALL, book.with_deeds([FOUR, THREE]).deeds())
        self.tells(ALL, book.with_deeds(more=(THREE, FOUR)).deeds())
        self.tells(ALL[:2], book.deeds())
        self.assertEqual(book, book.with_deeds([]))
        self.assertIsNot(book, book.with_deeds(()))

    def test_refusals_as_of_the_list_of_all(self):
        book = Book(ALL[:2])
        for value in (None, True, 0, "", {}, set(), book, iter([])):
            self.refused(NoBook, None, book.with_deeds, value)
        self.refused(NoBook, 3, book.with_deeds, [THREE, None])
        self.refused(NoBook, 2, book.with_deeds, [ONE])
        self.refused(NoBook, 3, book.with_deeds, [THREE, THREE])
        self.refused(NotClosed, (4, 2), book.with_deeds, [FOUR])
        self.refused(NotClosed, (2, 1), Book([deed(3, 1, 0, *BLOCK)]).with_deeds, [TWO])
        self.refused(Unseen, (3, 3), book.with_deeds, [deed(3, 3, 1, "drop", (2, 1))])
        self.refused(TooMany, 60, Book(row_of_blocks(59)).with_deeds, row_of_blocks(61)[59:])
        self.assertEqual(60, len(Book(row_of_blocks(59)).with_deeds(row_of_blocks(60)[59:])))
        self.tells(ALL[:2], book.deeds())

    def test_a_deed_ahead_of_an_own_one_that_has_not_seen_it(self):
        self.refused(NotClosed, (3, 0), Book([deed(3, 0, 0, *BLOCK)]).with_deeds, [ONE])


class FollowedTest(Case):
    def test_bodies_behind_an_empty_book(self):
        book = Book().followed(2, [BLOCK, ("wish", (1, 2), "x"), ("undo", (2, 2))])
        self.tells([((1, 2), NOTHING, BLOCK), ((2, 2), (0, 0, 1, 0), ("wish", (1, 2), "x")),
                    ((3, 2), (0, 0, 2, 0), ("undo", (2, 2)))], book.deeds())

    def test_bodies_behind_all(self):
        book = Book(ALL)
        more = book.followed(hand=1, bodies=(("drop", (1, 0)), BLOCK))
        self.tells([*ALL, ((5, 1), (3, 2, 4, 0), ("drop", (1, 0))), ((6, 1), (3, 5, 4, 0), BLOCK)], more.deeds())
        self.tells(ALL, book.deeds())

    def test_no_bodies(self):
        self.assertEqual(Book(ALL), Book(ALL).followed(3, []))
        self.assertEqual(Book(), Book().followed(0, ()))

    def test_the_hand_is_looked_at_first(self):
        for value in (*STRANGE, 4, -1):
            if value.__class__ is not int or not 0 <= value <= 3:
                self.refused(NoHand, value, Book().followed, value, None)

    def test_no_bodies_that_are_none(self):
        for value in (None, True, 0, 1, "", {}, set(), iter([]), Book()):
            self.refused(NoBody, None, Book().followed, 0, value)
        for value in STRANGE:
            self.refused(NoBody, 1, Book().followed, 0, [BLOCK, value, None])
        self.refused(NoBody, 0, Book().followed, 0, ("drop", ROOT))
        self.refused(NoBody, 0, Book().followed, 0, [["drop", ROOT]])

    def test_bodies_name_what_is_there_or_a_body_ahead(self):
        book = Book(ALL)
        self.assertEqual(6, len(book.followed(0, [BLOCK, ("move", (5, 0), (1, 0), 0)])))
        self.refused(NoBody, 0, book.followed, 0, [("drop", (2, 0))])
        self.refused(NoBody, 0, book.followed, 0, [("drop", (5, 0))])
        self.refused(NoBody, 1, book.followed, 0, [BLOCK, ("drop", (6, 0))])
        self.refused(NoBody, 1, book.followed, 0, [BLOCK, ("drop", (5, 1))])
        self.refused(NoBody, 1, book.followed, 0, [BLOCK, ("move", (5, 0), (7, 0), 0), BLOCK])
        self.refused(NoBody, 2, book.followed, 0, [BLOCK, BLOCK, ("make", "use", (5, 0), 0, (4, 0)), None])
        self.refused(NoBody, 0, Book().followed, 0, [("undo", (1, 0))])
        self.assertEqual(2, len(Book().followed(3, [BLOCK, ("redo", (1, 3))])))

    def test_too_many_deeds(self):
        book = Book(row_of_blocks(58))
        self.assertEqual(60, len(book.followed(1, [BLOCK] * 2)))
        self.refused(TooMany, 60, book.followed, 1, [BLOCK] * 3)
        self.refused(TooMany, 60, Book().followed, 1, [BLOCK] * 1100)
        self.refused(NoBody, 3, book.followed, 1, [BLOCK] * 3 + [None])

    def test_too_great_times(self):
        book = Book([deed(997, 0, 0, *BLOCK)])
        self.tells([(997, 0), (998, 1), (999, 1)], book.followed(1, [BLOCK] * 2).listed())
        self.refused(TooMany, 999, book.followed, 1, [BLOCK] * 3)
        self.refused(TooMany, 60, book.followed, 1, [BLOCK] * 60)
        self.refused(NoBody, 3, book.followed, 0, [BLOCK] * 3 + [("drop", (1000, 0))])
        full = Book([deed(999, 0, 0, *BLOCK)])
        self.assertEqual(full, full.followed(1, []))
        self.refused(TooMany, 999, full.followed, 1, [BLOCK])


class SeeingTest(Case):
    def test_has_seen(self):
        book = Book(ALL)
        seen = {(3, 0): [(1, 0)], (2, 1): [(1, 0)], (4, 2): [(1, 0), (2, 1), (3, 0)]}
        for one in book:
            for other in book:
                self.assertIs(other in seen.get(one, []), has_seen(book, one, other))
        self.assertIs(True, has_seen(book=book, one=(2, 1), other=(1, 0)))

    def test_are_apart(self):
        book = Book(ALL)
        for one in book:
            for other in book:
                if one != other:
                    self.assertIs({one, other} == {(2, 1), (3, 0)}, are_apart(book, one, other))
        self.assertIs(True, are_apart(book=book, one=(3, 0), other=(2, 1)))

    def test_wrong_values(self):
        book = Book(ALL)
        for call in (has_seen, are_apart):
            for value in (*STRANGE, ALL):
                self.refused(NoBook, value, call, value, None, None)
            for value in (*STRANGE, ROOT, (1, 1)):
                self.refused(NoStamp, value, call, book, value, None)
                self.refused(NoStamp, value, call, book, (1, 0), value)

    def test_like_stamps(self):
        book = Book(ALL)
        for stamp in book:
            self.refused(NoStamp, stamp, are_apart, book, stamp, stamp)
            self.assertIs(False, has_seen(book, stamp, stamp))

    def test_random_books(self):
        for seed in range(40):
            deeds = random_deeds(seed, 25)
            model = Model(deeds)
            random.Random(seed).shuffle(deeds)
            book = Book(deeds)
            self.tells(model.stamps, book.listed())
            for one in book:
                self.tells([model.saw(one, other) for other in book], [has_seen(book, one, other) for other in book])
                others = [other for other in book if other != one]
                self.tells([model.apart(one, other) for other in others],
                           [are_apart(book, one, other) for other in others])
