"""Point [10] and section hangs.py."""

import itertools
import random

from sharedscopes.books import Book
from sharedscopes.errors import NoBook, NoStamp, NoStamps
from sharedscopes.fates import fates_of
from sharedscopes.hangs import (accepts_hanger, awaiting_of, clean_set, hanger_paper, hangers_of, hurt_hands,
                                needs_of)
from sharedscopes.plays import play_of
from tests.model import Model
from tests.samples import ROOT, STRANGE, Case, deed, random_deeds

BLOCK = ("make", "block", ROOT, 0, None)


def under(thing, kind="block", content=None):
    return ("make", kind, thing, 0, content)


def followed(*bodies):
    return Book().followed(0, bodies)


# Blocks one within another: (1, 0), (2, 0), (3, 0), and another one, (4, 0); then a move and a drop.
BOOK = followed(BLOCK, under((1, 0)), under((2, 0)), BLOCK, ("move", (4, 0), (3, 0), 0), ("drop", (2, 0)))


class NeedsTest(Case):
    def test_each_kind_of_deed(self):
        book = followed(BLOCK, under((1, 0), "let", "x"), under((1, 0), "use", (2, 0)), under(ROOT, "number", 1),
                        ("move", (2, 0), (1, 0), 0), ("drop", (2, 0)), ("wish", (2, 0), "y"), ("point", (3, 0), (2, 0)),
                        ("set", (4, 0), 2), ("move", (1, 0), ROOT, 1), ("move", ROOT, (1, 0), 1), ("drop", ROOT),
                        ("move", (1, 0), (1, 0), 0))
        for stamp, needs in {(1, 0): [], (2, 0): [(1, 0)], (3, 0): [(1, 0)], (4, 0): [], (5, 0): [(1, 0), (2, 0)],
                             (6, 0): [(2, 0)], (7, 0): [(2, 0)], (8, 0): [(3, 0)], (9, 0): [(4, 0)],
                             (10, 0): [(1, 0)], (11, 0): [(1, 0)], (12, 0): [], (13, 0): [(1, 0)]}.items():
            self.tells(needs, needs_of(book, stamp))
        self.tells([(1, 0)], needs_of(book=book, stamp=(2, 0)))

    def test_ascending(self):
        self.tells([(3, 0), (4, 0)], needs_of(BOOK, (5, 0)))

    def test_a_stamp_of_no_make_is_no_need(self):
        book = followed(BLOCK, ("drop", (1, 0)), under((2, 0)), ("move", (2, 0), (1, 0), 0), ("drop", (2, 0)))
        self.tells([[], [(1, 0)], []], [needs_of(book, stamp) for stamp in ((3, 0), (4, 0), (5, 0))])

    def test_needs_are_needed_whether_alive_or_gone(self):
        book = followed(BLOCK, under((1, 0)), under((2, 0)), ("undo", (1, 0)))
        self.tells([(2, 0)], needs_of(book, (3, 0)))

    def test_wrong_values(self):
        for value in (*STRANGE, [BOOK], Book):
            self.refused(NoBook, value, needs_of, value, None)
        book = BOOK.followed(0, [("undo", (6, 0))])
        for value in (*STRANGE, ROOT, (7, 0), (8, 0), (1, 1)):
            if value not in BOOK:
                self.refused(NoStamp, value, needs_of, book, value)


class HangersTest(Case):
    def test_all_that_have_one_of_them_among_their_roots(self):
        self.tells([], hangers_of(BOOK, []))
        self.tells([(2, 0), (3, 0), (5, 0), (6, 0)], hangers_of(BOOK, [(1, 0)]))
        self.tells([(3, 0), (5, 0), (6, 0)], hangers_of(BOOK, ((2, 0),)))
        self.tells([(5, 0)], hangers_of(BOOK, [(3, 0)]))
        self.tells([(5, 0)], hangers_of(BOOK, [(4, 0)]))
        self.tells([], hangers_of(BOOK, [(5, 0), (6, 0)]))
        self.tells([(3, 0), (6, 0)], hangers_of(book=BOOK, stamps=[(5, 0), (2, 0)]))

    def test_hangers_behind_other_deeds_of_the_set(self):
        self.tells([(3, 0), (5, 0), (6, 0)], hangers_of(BOOK, [(2, 0), (1, 0)]))
        self.tells([(2, 0), (5, 0), (6, 0)], hangers_of(BOOK, [(1, 0), (3, 0)]))

    def test_the_dead_and_the_gone_do_not_hang(self):
        self.tells([(2, 0), (3, 0), (6, 0)], hangers_of(BOOK.followed(0, [("undo", (5, 0))]), [(1, 0)]))
        self.tells([(2, 0), (6, 0)], hangers_of(BOOK.followed(0, [("undo", (3, 0))]), [(1, 0)]))
        # A move of what holds nothing is gone, though it has what it needs.
        book = followed(BLOCK, under((1, 0), "number", 5), under((2, 0)), ("wish", (2, 0), "x"))
        self.tells([(2, 0)], hangers_of(book, [(1, 0)]))
        self.tells([], hangers_of(book, [(2, 0)]))

    def test_gone_deeds_may_be_asked(self):
        book = followed(BLOCK, ("undo", (1, 0)), under((1, 0)), under((3, 0)))
        self.tells([], hangers_of(book, [(3, 0)]))
        self.tells([], hangers_of(book, [(3, 0), (4, 0)]))

    def test_rings_hang(self):
        book = followed(BLOCK, under((1, 0)), ("move", (1, 0), (2, 0), 0))
        self.tells([(3, 0)], hangers_of(book, [(2, 0)]))

    def test_things_that_are_there_and_not_in_hang(self):
        self.tells([(8, 0)], hangers_of(BOOK.followed(0, [("undo", (6, 0)), under((3, 0))]), [(5, 0), (3, 0)]))

    def test_where_a_thing_points_it_does_not_hang(self):
        book = followed(under(ROOT, "let", "x"), under(ROOT, "use", (1, 0)), ("point", (2, 0), (1, 0)))
        self.tells([], hangers_of(book, [(1, 0)]))

    def test_hurt_hands(self):
        book = BOOK.followed(3, [under((3, 0))]).followed(2, [("move", (7, 3), (2, 0), 0)]).followed(3, [BLOCK])
        self.tells([0, 2, 3], sorted({hand for _, hand in hangers_of(book, [(1, 0)])}))
        self.tells([2, 3], hurt_hands(book, [(1, 0)]))
        self.tells([2], hurt_hands(book, [(9, 3), (1, 0)]))
        self.tells([0, 2], hurt_hands(book.followed(0, [under((7, 3))]), [(7, 3)]))
        self.tells([], hurt_hands(book, []))
        self.tells([], hurt_hands(book=BOOK, stamps=((1, 0),)))

    def test_clean_sets(self):
        self.tells([], clean_set(BOOK, []))
        self.tells([(1, 0), (2, 0), (3, 0), (5, 0), (6, 0)], clean_set(BOOK, [(1, 0)]))
        self.tells([(3, 0), (4, 0), (5, 0)], clean_set(BOOK, [(4, 0), (3, 0)]))
        self.tells([(5, 0), (6, 0)], clean_set(book=BOOK, stamps=((6, 0), (5, 0))))

    def test_wrong_values(self):
        book = BOOK.followed(0, [("undo", (6, 0)), BLOCK, ("undo", (8, 0))])
        for call in (hangers_of, hurt_hands, clean_set):
            for value in (*STRANGE, [BOOK]):
                self.refused(NoBook, value, call, value, None)
            self.refuses_stamps(NoStamps, lambda stamps: call(BOOK, stamps), BOOK)
            for dead in ((6, 0), (7, 0), (8, 0), (9, 0), (10, 0)):
                self.refused(NoStamps, 1, call, book, [(5, 0), dead])


class AwaitingTest(Case):
    def test_what_a_redo_would_bring_back(self):
        book = BOOK.followed(0, [("undo", (2, 0))])
        self.tells([(3, 0), (5, 0), (6, 0)], awaiting_of(book, (2, 0)))
        self.tells([(3, 0), (5, 0), (6, 0)], awaiting_of(book=book, stamp=(2, 0)))

    def test_what_would_be_gone_all_the_same(self):
        book = BOOK.followed(0, [("undo", (2, 0)), ("undo", (4, 0))])
        self.tells([(3, 0), (6, 0)], awaiting_of(book, (2, 0)))
        self.tells([], awaiting_of(book, (4, 0)))
        book = followed(under(ROOT, "number", 1), under((1, 0)), ("set", (1, 0), 2), ("wish", (1, 0), "x"),
                        ("undo", (1, 0)))
        self.tells([(3, 0)], awaiting_of(book, (1, 0)))

    def test_a_ring_is_not_gone(self):
        book = followed(BLOCK, under((1, 0)), ("move", (1, 0), (2, 0), 0), ("undo", (2, 0)))
        self.tells([(3, 0)], awaiting_of(book, (2, 0)))

    def test_other_dead_deeds_do_not_await(self):
        book = BOOK.followed(0, [("undo", (2, 0)), ("undo", (5, 0))])
        self.tells([(3, 0), (6, 0)], awaiting_of(book, (2, 0)))
        self.tells([], awaiting_of(book, (5, 0)))

    def test_wrong_values(self):
        book = BOOK.followed(0, [("undo", (2, 0))])
        for value in STRANGE:
            self.refused(NoBook, value, awaiting_of, value, None)
        for value in (*STRANGE, *[stamp for stamp in book if stamp != (2, 0)], ROOT, (8, 0), (1, 1)):
            self.refused(NoStamp, value, awaiting_of, book, value)


class PaperTest(Case):
    def test_told_papers(self):
        self.tells(("hanger", ((2, 0), (1, 0))), hanger_paper(BOOK, [(1, 0)], (2, 0)))
        self.tells(("hanger", ((3, 0), (2, 0), (1, 0))), hanger_paper(BOOK, ((1, 0),), (3, 0)))
        self.tells(("hanger", ((6, 0), (2, 0), (1, 0))), hanger_paper(BOOK, [(1, 0)], (6, 0)))
        self.tells(("hanger", ((5, 0), (3, 0), (2, 0), (1, 0))),
                   hanger_paper(book=BOOK, stamps=[(1, 0)], hanger=(5, 0)))

    def test_the_thing_is_followed_ahead_of_the_under(self):
        self.tells(("hanger", ((5, 0), (4, 0))), hanger_paper(BOOK, [(4, 0), (3, 0)], (5, 0)))
        self.tells(("hanger", ((5, 0), (3, 0))), hanger_paper(BOOK, [(3, 0)], (5, 0)))
        book = followed(BLOCK, under((1, 0)), BLOCK, under((3, 0)), ("move", (4, 0), (2, 0), 0))
        self.tells(("hanger", ((5, 0), (4, 0), (3, 0))), hanger_paper(book, [(1, 0), (3, 0)], (5, 0)))
        self.tells(("hanger", ((5, 0), (4, 0), (3, 0))), hanger_paper(book, [(2, 0), (3, 0)], (5, 0)))
        self.tells(("hanger", ((5, 0), (2, 0), (1, 0))), hanger_paper(book, [(1, 0)], (5, 0)))

    def test_it_ends_at_the_first_of_the_deeds(self):
        self.tells(("hanger", ((5, 0), (3, 0))), hanger_paper(BOOK, [(1, 0), (3, 0)], (5, 0)))
        self.tells(("hanger", ((3, 0), (2, 0))), hanger_paper(BOOK, [(1, 0), (2, 0)], (3, 0)))

    def test_no_hangers(self):
        book = BOOK.followed(0, [("undo", (5, 0))])
        for stamp in ((1, 0), (4, 0), (5, 0), (7, 0)):
            self.assertIsNone(hanger_paper(book, [(1, 0)], stamp))
        self.assertIsNone(hanger_paper(BOOK, [], (2, 0)))

    def test_papers_of_others(self):
        for stamps, row in ((((1, 0),), ((3, 0), (2, 0), (1, 0))), (((1, 0), (2, 0)), ((3, 0), (2, 0))),
                            (((1, 0), (2, 0)), ((3, 0), (2, 0), (1, 0))), (((3, 0), (4, 0)), ((5, 0), (3, 0))),
                            (((3, 0), (4, 0)), ((5, 0), (4, 0)))):
            self.assertIs(True, accepts_hanger(BOOK, stamps, ("hanger", row)), (stamps, row))
            self.assertIs(True, accepts_hanger(book=BOOK, stamps=list(stamps)[::-1], value=("hanger", row)))

    def test_bent_papers(self):
        row = ((5, 0), (3, 0), (2, 0), (1, 0))
        self.assertIs(True, accepts_hanger(BOOK, [(1, 0)], ("hanger", row)))
        for bent in (row[:-1], row[1:3], row[1:] + row[:1], row[:2] + row[3:], row[::-1], row + row[-1:], row[:1],
                     row[-1:], (), row[:1] + row, list(row), [*row], (list(row[0]), *row[1:]), (*row, ROOT),
                     ((True, 0), *row[1:]), (*row[:-1], (1, False)), (*row[:-1], (True, 0)), None, 5, "hanger",
                     (*row[:-1], None), ((5, 0), (4, 0)), ((4, 0), (1, 0)), ((2, 0), ROOT)):
            self.assertIs(False, accepts_hanger(BOOK, [(1, 0)], ("hanger", bent)), bent)
        for bent in (*STRANGE, row, ("hanger",), ["hanger", row], ("hanger", row, None), ("gone", row), (b"hanger", row),
                     (None, row), (row, "hanger"), ("hanger", *row)):
            self.assertIs(False, accepts_hanger(BOOK, [(1, 0)], bent), bent)

    def test_the_hanger_is_none_of_the_deeds(self):
        self.assertIs(False, accepts_hanger(BOOK, [(1, 0), (3, 0)], ("hanger", ((3, 0), (2, 0), (1, 0)))))
        self.assertIs(False, accepts_hanger(BOOK, [(1, 0)], ("hanger", ((1, 0),))))
        self.assertIs(False, accepts_hanger(BOOK, [], ("hanger", ((2, 0), (1, 0)))))

    def test_all_are_alive_and_none_is_gone(self):
        book = followed(BLOCK, under((1, 0)), ("drop", (2, 0)), ("undo", (3, 0)), ("wish", (2, 0), "x"))
        self.assertIs(False, accepts_hanger(book, [(1, 0)], ("hanger", ((3, 0), (2, 0), (1, 0)))))
        self.assertIs(False, accepts_hanger(book, [(1, 0)], ("hanger", ((5, 0), (2, 0), (1, 0)))))
        self.assertIs(False, accepts_hanger(book, [(1, 0)], ("hanger", ((4, 0), (3, 0), (2, 0), (1, 0)))))
        self.assertIs(True, accepts_hanger(book, [(1, 0)], ("hanger", ((2, 0), (1, 0)))))
        gone = followed(BLOCK, under((1, 0)), under((2, 0)), ("undo", (1, 0)))
        self.assertIs(False, accepts_hanger(gone, [(2, 0)], ("hanger", ((3, 0), (2, 0)))))

    def test_wrong_values(self):
        for value in STRANGE:
            self.refused(NoBook, value, hanger_paper, value, None, None)
            self.refused(NoBook, value, accepts_hanger, value, None, None)
        self.refuses_stamps(NoStamps, lambda stamps: hanger_paper(BOOK, stamps, None), BOOK)
        self.refuses_stamps(NoStamps, lambda stamps: accepts_hanger(BOOK, stamps, None), BOOK)
        dead = BOOK.followed(0, [("undo", (5, 0))])
        self.refused(NoStamps, 0, hanger_paper, dead, [(5, 0)], (6, 0))
        self.refused(NoStamps, 0, accepts_hanger, dead, [(7, 0)], None)
        for value in (*STRANGE, ROOT, (7, 0), (1, 1)):
            if value not in BOOK:
                self.refused(NoStamp, value, hanger_paper, BOOK, [(1, 0)], value)


class RandomTest(Case):
    def roots(self, model, stamp):
        needs = {name for name in model.named(stamp) if name != ROOT and model.body(name)[0] == "make"}
        return needs.union(*[self.roots(model, need) for need in needs])

    def books(self, many):
        for seed in range(many):
            deeds = random_deeds(seed, 30, hands=seed % 4 + 1, meeting=0.6)
            book, model = Book(deeds), Model(deeds)
            rng = random.Random(seed)
            for size in (1, 1, 2, 3, 5):
                yield book, model, rng.sample(model.alive, min(size, len(model.alive)))

    def test_as_the_document_says(self):
        for book, model, stamps in self.books(60):
            standing = [stamp for stamp in model.alive if model.outcomes[stamp] != "gone"]
            roots = {stamp: self.roots(model, stamp) for stamp in model.ordinary}
            hangers = [stamp for stamp in standing if stamp not in stamps and roots[stamp] & set(stamps)]
            self.tells(hangers, hangers_of(book, stamps))
            hurt = {hand for _, hand in hangers} - {hand for _, hand in stamps}
            self.tells(sorted(hurt), hurt_hands(book, stamps))
            self.tells(sorted([*stamps, *hangers]), clean_set(book, stamps))
            self.tells([], hangers_of(book, clean_set(book, stamps)))
            for stamp in model.ordinary:
                self.tells(sorted(need for need in roots[stamp] if need in model.named(stamp)), needs_of(book, stamp))

    def test_undone_they_make_just_their_hangers_gone(self):
        for book, model, stamps in self.books(40):
            gone = [stamp for stamp in model.alive if model.outcomes[stamp] == "gone"]
            later = book
            for stamp in random.Random(str(stamps)).sample(stamps, len(stamps)):
                later = later.followed(stamp[1], [("undo", stamp)])
            rows = [row[0] for row in play_of(later) if row[1] == "gone"]
            self.assertEqual(sorted({*gone, *hangers_of(book, stamps)} - set(stamps)), rows)

    def test_a_clean_set_is_the_least(self):
        for book, model, stamps in self.books(20):
            if len(hangers_of(book, stamps)) > 6:
                continue
            others = [stamp for stamp in hangers_of(book, stamps)]
            for many in range(len(others)):
                for some in itertools.combinations(others, many):
                    self.assertTrue(hangers_of(book, [*stamps, *some]))

    def test_awaiting(self):
        found = 0
        for seed in range(60):
            deeds = random_deeds(seed, 35, hands=seed % 4 + 1, meeting=0.6)
            book, model = Book(deeds), Model(deeds)
            for stamp in [stamp for stamp in model.ordinary if stamp not in model.alive]:
                redone = fates_of(book.followed(stamp[1], [("redo", stamp)]))
                told = [one for one, fate in fates_of(book).items() if fate[0] == "gone" and redone[one][0] != "gone"]
                self.tells(told, awaiting_of(book, stamp))
                found += len(told)
        self.assertGreater(found, 20)

    def test_papers(self):
        found = 0
        for book, model, stamps in self.books(25):
            for stamp in book:
                paper = hanger_paper(book, stamps, stamp)
                if stamp not in hangers_of(book, stamps):
                    self.assertIsNone(paper)
                    continue
                found += 1
                self.assertIs(True, accepts_hanger(book, stamps, paper))
                row = [stamp]
                while row[-1] not in stamps:
                    names = [name for name in model.named(row[-1]) if name != ROOT]
                    good = [name for name in names
                            if name in stamps or any(root in stamps for root in self.roots(model, name))]
                    row.append(good[0])
                self.tells(("hanger", tuple(row)), paper)
        self.assertGreater(found, 100)

    def test_right_papers_are_of_hangers_alone(self):
        rng = random.Random(7)
        for book, model, stamps in self.books(20):
            standing = [stamp for stamp in model.alive if model.outcomes[stamp] != "gone"]
            hangers = hangers_of(book, stamps)
            for _ in range(60):
                row = [rng.choice(book.listed())]
                while rng.random() < 0.8:
                    names = [name for name in model.named(row[-1]) if name != ROOT] or book.listed()
                    row.append(rng.choice(names if rng.random() < 0.95 else book.listed()))
                is_right = all(stamp in standing for stamp in row) and row[0] not in stamps and row[-1] in stamps and \
                    all(two in model.named(one) for one, two in zip(row, row[1:]))
                self.assertIs(is_right, accepts_hanger(book, stamps, ("hanger", tuple(row))))
                if is_right:
                    self.assertIn(row[0], hangers)

    def test_deeds_of_others(self):
        made = [deed(1, 0, 0, *BLOCK), deed(2, 1, 1, *under((1, 0))), deed(3, 2, (1, 2, 0, 0), "drop", (2, 1))]
        self.tells([(2, 1), (3, 2)], hangers_of(Book(made), [(1, 0)]))
        self.tells([1, 2], hurt_hands(Book(made), [(1, 0)]))
        self.tells([2], hurt_hands(Book(made), [(2, 1)]))
