"""Point [5] and section plays.py."""

import random

from sharedscopes.books import Book
from sharedscopes.branches import all_branches, part_of
from sharedscopes.errors import NoBook, NoStamp, NoStamps
from sharedscopes.marks import alive_deeds
from sharedscopes.plays import accepts_play, placings_of, play_of, row_of
from tests.model import Model
from tests.samples import ROOT, STRANGE, Case, deed, random_deeds

BLOCK = ("make", "block", ROOT, 0, None)
KINDS = (("block", None), ("let", "x"), ("sum", None), ("product", None), ("use", None), ("number", 5))


def under(thing, kind="block", content=None):
    """The body that makes something under a thing."""
    return ("make", kind, thing, 0, content)


def followed(*bodies):
    return Book().followed(0, bodies)


def outcomes(book):
    return [row[1] for row in play_of(book)]


class PlayTest(Case):
    def test_empty(self):
        self.tells([], play_of(Book()))
        self.tells([], play_of(book=Book(), without=()))

    def test_makes(self):
        book = followed(*[under(ROOT, *kind) for kind in KINDS])
        self.tells([((time, 0), "done", ()) for time in range(1, 7)], play_of(book))

    def test_only_some_kinds_hold(self):
        for kind, content in KINDS:
            book = followed(under(ROOT, kind, content), under((1, 0)), under((2, 0)))
            last = "gone" if kind in ("use", "number") else "done"
            self.tells(["done", last, last], outcomes(book))

    def test_makes_under_what_is_gone_are_gone(self):
        book = followed(BLOCK, under((1, 0)), under((2, 0)), BLOCK, ("undo", (1, 0)))
        self.tells([((2, 0), "gone", ()), ((3, 0), "gone", ()), ((4, 0), "done", ())], play_of(book))
        book = followed(("drop", ROOT), under((1, 0)))
        self.tells([((1, 0), "gone", ()), ((2, 0), "gone", ())], play_of(book))

    def test_makes_under_what_is_dropped_are_done(self):
        self.tells(["done"] * 4, outcomes(followed(BLOCK, ("drop", (1, 0)), under((1, 0)), under((3, 0)))))

    def test_a_redone_make_stands_at_its_own_place_in_the_order(self):
        book = followed(BLOCK, under((1, 0)), ("undo", (1, 0)), ("redo", (1, 0)))
        self.tells([((1, 0), "done", ()), ((2, 0), "done", ())], play_of(book))

    def test_moves(self):
        book = followed(BLOCK, BLOCK, ("move", (1, 0), (2, 0), 3), ("move", (1, 0), ROOT, 0), ("move", (1, 0), ROOT, 0))
        self.tells([((1, 0), "done", ()), ((2, 0), "done", ()), ((3, 0), "done", (((2, 0), (2, 0)),)),
                    ((4, 0), "done", ()), ((5, 0), "done", ())], play_of(book))

    def test_moves_of_what_is_not_there_or_the_root_are_gone(self):
        self.tells([((1, 0), "gone", ())], play_of(followed(("move", ROOT, ROOT, 0))))
        self.tells(["done", "gone"], outcomes(followed(BLOCK, ("move", ROOT, (1, 0), 0))))
        self.tells(["done", "gone"], outcomes(followed(BLOCK, BLOCK, ("move", (1, 0), (2, 0), 0), ("undo", (1, 0)))))
        self.tells(["done", "gone"], outcomes(followed(BLOCK, BLOCK, ("move", (1, 0), (2, 0), 0), ("undo", (2, 0)))))
        self.tells(["done", "done", "gone"], outcomes(followed(BLOCK, ("drop", (1, 0)), ("move", (2, 0), (1, 0), 0))))
        self.tells(["done", "done", "gone"], outcomes(followed(BLOCK, ("drop", (1, 0)), ("move", (1, 0), (2, 0), 0))))

    def test_moves_under_what_holds_no_others_are_gone(self):
        for kind, content in KINDS:
            book = followed(BLOCK, under(ROOT, kind, content), ("move", (1, 0), (2, 0), 0))
            self.tells("gone" if kind in ("use", "number") else "done", outcomes(book)[2])
        book = followed(under(ROOT, "number", 3), ("move", (1, 0), (1, 0), 0))
        self.tells([((1, 0), "done", ()), ((2, 0), "gone", ())], play_of(book))

    def test_rings(self):
        book = followed(BLOCK, under((1, 0)), under((2, 0)), ("move", (1, 0), (3, 0), 0), ("move", (1, 0), (1, 0), 0),
                        ("move", (2, 0), (1, 0), 7))
        self.tells([((4, 0), "ring", (((3, 0), (3, 0)), ((2, 0), (2, 0)), ((1, 0), None))),
                    ((5, 0), "ring", (((1, 0), None),)), ((6, 0), "done", (((1, 0), (1, 0)),))], play_of(book)[3:])

    def test_chains_name_what_last_placed_or_dropped(self):
        book = followed(BLOCK, BLOCK, BLOCK, ("move", (2, 0), (1, 0), 0), ("move", (2, 0), ROOT, 0),
                        ("move", (2, 0), (1, 0), 5), ("move", (3, 0), (2, 0), 0), ("drop", (1, 0)),
                        ("move", (3, 0), (2, 0), 1), ("move", (1, 0), (2, 0), 1))
        rows = play_of(book)
        self.tells(((7, 0), "done", (((2, 0), (6, 0)), ((1, 0), (1, 0)))), rows[6])
        self.tells(((9, 0), "done", (((2, 0), (6, 0)), ((1, 0), (8, 0)))), rows[8])
        self.tells(((10, 0), "ring", (((2, 0), (6, 0)), ((1, 0), None))), rows[9])

    def test_a_ring_places_nothing(self):
        book = followed(BLOCK, under((1, 0)), ("move", (1, 0), (2, 0), 0), BLOCK, ("move", (4, 0), (1, 0), 0))
        self.tells(((5, 0), "done", (((1, 0), (1, 0)),)), play_of(book)[4])

    def test_what_is_dropped_is_still_above_what_is_below_it(self):
        book = followed(BLOCK, under((1, 0)), ("drop", (1, 0)), ("move", (1, 0), (2, 0), 0), ("move", (2, 0), ROOT, 0),
                        ("move", (1, 0), (2, 0), 0))
        self.tells([((4, 0), "ring", (((2, 0), (2, 0)), ((1, 0), None))), ((5, 0), "done", ()),
                    ((6, 0), "done", (((2, 0), (5, 0)),))], play_of(book)[3:])

    def test_drops(self):
        book = followed(BLOCK, ("drop", (1, 0)), ("drop", (1, 0)), ("drop", ROOT), ("drop", (2, 0)),
                        ("drop", (4, 0)))
        self.tells(["done", "done", "done", "gone", "gone", "gone"], outcomes(book))

    def test_contents(self):
        for word, kind, content in (("wish", "let", "y"), ("point", "use", (1, 0)), ("set", "number", 7)):
            for made, old in KINDS:
                book = followed(under(ROOT, made, old), (word, (1, 0), content), ("drop", (1, 0)),
                                (word, (1, 0), content))
                last = "done" if made == kind else "gone"
                self.tells(["done", last, "done", last], outcomes(book))
            self.tells([((1, 0), "gone", ())], play_of(followed((word, ROOT, None if word == "point" else content))))
            book = followed(under(ROOT, kind, {"let": "x", "number": 0}.get(kind)), (word, (1, 0), content),
                            ("undo", (1, 0)))
            self.tells(["gone"], outcomes(book))

    def test_what_a_use_points_to_is_not_asked(self):
        book = followed(("drop", ROOT), under(ROOT, "use", (1, 0)), ("point", (2, 0), (2, 0)), ("point", (2, 0), ROOT))
        self.tells(["gone", "done", "done", "done"], outcomes(book))

    def test_without(self):
        book = followed(BLOCK, under((1, 0)), ("move", (1, 0), (2, 0), 0), ("undo", (2, 0)), ("redo", (2, 0)))
        self.tells(["done", "done", "ring"], outcomes(book))
        self.tells([((1, 0), "done", ()), ((3, 0), "gone", ())], play_of(book, [(2, 0)]))
        self.tells([((2, 0), "gone", ()), ((3, 0), "gone", ())], play_of(book, ((1, 0),)))
        self.tells([((1, 0), "done", ()), ((3, 0), "gone", ())], play_of(book, without=[(5, 0)]))
        self.tells(play_of(book), play_of(book, [(5, 0), (4, 0)]))
        self.tells([], play_of(book, [(3, 0), (1, 0), (2, 0)]))
        self.tells(play_of(book), play_of(book, []))

    def test_new_lists_each_time(self):
        book = followed(BLOCK)
        play_of(book).clear()
        self.tells([((1, 0), "done", ())], play_of(book))

    def test_wrong_values(self):
        for value in (*STRANGE, []):
            for call in (play_of, placings_of, row_of, accepts_play):
                self.refused(NoBook, value, call, value, None)
        book = followed(BLOCK, BLOCK, ("undo", (1, 0)))
        self.refuses_stamps(NoStamps, lambda stamps: play_of(book, stamps), book)

    def test_random_books(self):
        for seed in range(60):
            deeds = random_deeds(seed, 40, hands=seed % 4 + 1, meeting=0.6 if seed % 2 else 0.2)
            random.Random(seed).shuffle(deeds)
            book = Book(deeds)
            self.tells(Model(deeds).rows, play_of(book))
            left = book.listed()[seed % 4::4]
            self.tells(Model(deeds, left).rows, play_of(book, left[::-1]))

    def test_whether_a_thing_is_there_hangs_on_alive_makes_alone(self):
        for seed in range(20):
            book = Book(random_deeds(seed, 30))
            alive = alive_deeds(book)
            makes = [stamp for stamp in book if book[stamp][2][0] == "make"]
            others = [stamp for stamp in alive if stamp not in makes]
            made = {row[0]: row[1] for row in play_of(book) if row[0] in makes}
            self.tells(made, {row[0]: row[1] for row in play_of(book, others)})


class AcceptsTest(Case):
    def setUp(self):
        self.book = followed(BLOCK, under((1, 0)), ("move", (1, 0), (2, 0), 0), ("drop", (2, 0)), ("undo", (4, 0)),
                             ("drop", ROOT))
        self.play = [((1, 0), "done", ()), ((2, 0), "done", ()), ((3, 0), "ring", (((2, 0), (2, 0)), ((1, 0), None))),
                     ((6, 0), "gone", ())]

    def test_the_play(self):
        self.tells(self.play, play_of(self.book))
        self.assertIs(True, accepts_play(self.book, self.play))
        self.assertIs(True, accepts_play(book=self.book, value=list(self.play)))
        self.assertIs(True, accepts_play(Book(), []))

    def test_other_values(self):
        for value in (*STRANGE, tuple(self.play), self.play[:-1], self.play[::-1], [*self.play, self.play[0]],
                      [*self.play, None], [list(row) for row in self.play], {row[0]: row for row in self.play},
                      iter(self.play), [row[:2] for row in self.play], [(*row, ()) for row in self.play]):
            self.assertIs(False, accepts_play(self.book, value), value)
        for value in STRANGE:
            self.assertIs(value.__class__ is list and not value, accepts_play(Book(), value))

    def test_other_rows(self):
        for at, row in enumerate(self.play):
            rows = [((row[0][0] + 1, 0), *row[1:]), ([*row[0]], *row[1:]), (row[0], row[1].upper(), row[2]),
                    (row[0], row[1].encode(), row[2]), (row[0], row[1], [*row[2]]), (row[0], row[1], None),
                    (row[0], "done" if row[1] != "done" else "ring", row[2]), ((float(row[0][0]), 0), *row[1:]),
                    ((row[0][0], False), *row[1:]), (*row[:2], (*row[2], ((1, 0), None)))]
            for value in [*rows, *STRANGE]:
                self.assertIs(False, accepts_play(self.book, [*self.play[:at], value, *self.play[at + 1:]]), value)

    def test_other_chains(self):
        for chain in ((((2, 0), (2, 0)), ((1, 0), (1, 0))), (((2, 0), (2, 0)),), (((2, 0), (2, 0)), ((1, 0), False)),
                      (((2, 0), (2, 0)), [(1, 0), None]), (((2, 0), [2, 0]), ((1, 0), None)),
                      (((2, 0), (2, 0)), ((True, 0), None)), (((2, 0), (2, 0)), ((1, 0),)), (((2, 0), (2, 0)), (1, 0)),
                      (((2, False), (2, 0)), ((1, 0), None))):
            play = [*self.play[:2], ((3, 0), "ring", chain), self.play[3]]
            self.assertIs(False, accepts_play(self.book, play), chain)

    def test_true_is_no_number(self):
        book = followed(BLOCK)
        self.assertIs(True, accepts_play(book, [((1, 0), "done", ())]))
        self.assertIs(False, accepts_play(book, [((True, 0), "done", ())]))
        self.assertIs(False, accepts_play(book, [((1, False), "done", ())]))

    def test_an_accepted_play_is_the_play(self):
        for seed in range(20):
            deeds = random_deeds(seed, 20)
            book = Book(deeds)
            self.assertIs(True, accepts_play(book, Model(deeds).rows))
            for branch in all_branches(book)[:30]:
                play = play_of(part_of(book, branch))
                self.assertIs(play == play_of(book), accepts_play(book, play))


class RowTest(Case):
    def test_rows(self):
        book = followed(BLOCK, ("undo", (1, 0)), ("drop", (1, 0)), BLOCK, under((4, 0)), ("move", (4, 0), (5, 0), 1))
        self.tells([None, None, ((3, 0), "gone", ()), ((4, 0), "done", ()), ((5, 0), "done", ()),
                    ((6, 0), "ring", (((5, 0), (5, 0)), ((4, 0), None)))], [row_of(book, stamp) for stamp in book])
        self.tells(((4, 0), "done", ()), row_of(book=book, stamp=(4, 0)))

    def test_wrong_values(self):
        for value in (*STRANGE, ROOT, (2, 0), (1, 1)):
            self.refused(NoStamp, value, row_of, followed(BLOCK), value)


class PlacingsTest(Case):
    def test_done_makes_moves_and_drops(self):
        book = followed(BLOCK, under(ROOT, "let", "x"), ("move", (2, 0), (1, 0), 0), ("wish", (2, 0), "y"),
                        ("drop", (2, 0)), ("drop", (1, 0)), ("move", (2, 0), (2, 0), 0), ("move", (2, 0), ROOT, 0),
                        ("move", (1, 0), (2, 0), 0), ("undo", (8, 0)))
        self.tells([(2, 0), (3, 0), (5, 0)], placings_of(book, (2, 0)))
        self.tells([(1, 0), (6, 0), (9, 0)], placings_of(book=book, thing=(1, 0)))

    def test_what_is_not_there_is_placed_by_nothing(self):
        book = followed(BLOCK, under((1, 0)), ("drop", (2, 0)), ("undo", (1, 0)))
        self.tells([], placings_of(book, (1, 0)))
        self.tells([], placings_of(book, (2, 0)))

    def test_only_stamps_of_makes(self):
        book = followed(BLOCK, ("drop", (1, 0)), ("undo", (1, 0)), ("move", (1, 0), ROOT, 0))
        for value in (*STRANGE, ROOT, (2, 0), (3, 0), (4, 0), (1, 1)):
            self.refused(NoStamp, value, placings_of, book, value)

    def test_random_books(self):
        for seed in range(20):
            deeds = random_deeds(seed, 40)
            model = Model(deeds)
            for stamp in model.stamps:
                if model.body(stamp)[0] == "make":
                    self.tells(model.done(("place", stamp)), placings_of(Book(deeds), stamp))


class TwoHandsTest(Case):
    def test_the_order_of_stamps_decides_and_not_who_came_first(self):
        made = [deed(1, 0, 0, *BLOCK), deed(2, 0, 1, *BLOCK)]
        one = deed(3, 1, 2, "move", (1, 0), (2, 0), 0)
        other = deed(3, 2, 2, "move", (2, 0), (1, 0), 0)
        expected = [((3, 1), "done", (((2, 0), (2, 0)),)), ((3, 2), "ring", (((1, 0), (3, 1)), ((2, 0), None)))]
        for deeds in ([*made, one, other], [other, one, *made]):
            self.tells(expected, play_of(Book(deeds))[2:])
        self.tells([((3, 2), "done", (((1, 0), (1, 0)),))], play_of(Book([*made, other]))[2:])
