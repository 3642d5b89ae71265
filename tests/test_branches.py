"""Point [3] and section branches.py."""

import itertools

from sharedscopes.books import Book, are_apart
from sharedscopes.branches import (
    all_branches, all_of, branch_of, closure_of, common_branch, heads_of, is_branch, joined_branch, lacks_of, news_of,
    part_of)
from sharedscopes.errors import NoBook, NoBranch, NoHeads, NoStamp, TooMany
from tests.samples import NOTHING, ROOT, STRANGE, Case, deed, random_deeds, row_of_blocks

BLOCK = ("make", "block", ROOT, 0, None)

# Hand 0: 1, 4. Hand 1: 2 (has seen 1 of hand 0), 5 (has seen 3 of hand 2). Hand 2: 3. Hand 3: none.
DEEDS = [deed(1, 0, 0, *BLOCK), deed(2, 1, 1, *BLOCK), deed(3, 2, 0, *BLOCK), deed(4, 0, 1, *BLOCK),
         deed(5, 1, (1, 2, 3, 0), *BLOCK)]
BOOK = Book(DEEDS)
BRANCHES = [(0, 0, 0, 0), (0, 0, 3, 0), (1, 0, 0, 0), (1, 0, 3, 0), (1, 2, 0, 0), (1, 2, 3, 0), (1, 5, 3, 0),
            (4, 0, 0, 0), (4, 0, 3, 0), (4, 2, 0, 0), (4, 2, 3, 0), (4, 5, 3, 0)]

# Branches of no book of these deeds, and values of other kinds.
NO_BRANCHES = (*STRANGE, [0, 0, 0, 0], (0, 0, 0), (0, 0, 0, 0, 0), (0, 2, 0, 0), (1, 5, 0, 0), (0, 5, 3, 0),
               (2, 0, 0, 0),
               (0, 1, 0, 0), (0, 0, 0, 3), (5, 0, 0, 0), (-1, 0, 0, 0), (False, 0, 0, 0), (True, 0, 0, 0),
               (1, False, 0, 0), (1.0, 0, 0, 0), (0, 0, 0, None), ("1", 0, 0, 0), ((1, 0), 0, 0, 0))


def crossed_books():
    for seed in range(25):
        yield Book(random_deeds(seed, 14))


def grid(*lengths):
    """A book of hands that have seen nothing of one another."""
    deeds = []
    for hand, length in enumerate(lengths):
        for time in range(1, length + 1):
            seen = [0, 0, 0, 0]
            seen[hand] = time - 1
            deeds.append(((time, hand), tuple(seen), BLOCK))
    return Book(deeds)


class BranchTest(Case):
    def test_branches(self):
        for branch in BRANCHES:
            self.assertIs(True, is_branch(BOOK, branch), branch)
        self.assertIs(True, is_branch(book=BOOK, value=(4, 5, 3, 0)))
        self.assertIs(True, is_branch(Book(), NOTHING))

    def test_no_branches(self):
        for value in NO_BRANCHES:
            self.assertIs(False, is_branch(BOOK, value), value)
        self.assertIs(False, is_branch(Book(), (1, 0, 0, 0)))
        self.assertIs(False, is_branch(Book(), (False, 0, 0, 0)))

    def test_all_tuples_of_times(self):
        for times in itertools.product(range(6), repeat=3):
            self.assertIs((*times, 0) in BRANCHES, is_branch(BOOK, (*times, 0)))

    def test_no_book(self):
        for value in (*STRANGE, DEEDS):
            for call in (is_branch, closure_of, heads_of, branch_of, part_of):
                self.refused(NoBook, value, call, value, None)
            for call in (joined_branch, common_branch, news_of, lacks_of):
                self.refused(NoBook, value, call, value, None, None)
            for call in (all_of, all_branches):
                self.refused(NoBook, value, call, value)

    def test_no_branch(self):
        for value in NO_BRANCHES:
            for call in (heads_of, part_of):
                self.refused(NoBranch, value, call, BOOK, value)
            for call in (joined_branch, common_branch, news_of):
                self.refused(NoBranch, value, call, BOOK, value, None)
                self.refused(NoBranch, value, call, BOOK, NOTHING, value)
            self.refused(NoBranch, value, lacks_of, BOOK, value, None)


class AllTest(Case):
    def test_all_of(self):
        self.tells((4, 5, 3, 0), all_of(BOOK))
        self.tells(NOTHING, all_of(book=Book()))

    def test_closure(self):
        self.tells([(1, 0, 0, 0), (1, 2, 0, 0), (0, 0, 3, 0), (4, 0, 0, 0), (1, 5, 3, 0)],
                   [closure_of(BOOK, stamp) for stamp in BOOK])
        self.tells((4, 0, 0, 0), closure_of(book=BOOK, stamp=(4, 0)))
        for value in (*STRANGE, ROOT, (2, 0), (4, 1)):
            self.refused(NoStamp, value, closure_of, BOOK, value)

    def test_all_branches(self):
        self.tells(BRANCHES, all_branches(BOOK))
        self.tells([NOTHING], all_branches(book=Book()))
        self.tells(BRANCHES, sorted(all_branches(BOOK)))

    def test_all_branches_are_all_tuples_that_are_branches(self):
        for book in crossed_books():
            times = [[0] + [time for time, other in book if other == hand] for hand in range(4)]
            expected = [branch for branch in itertools.product(*times) if is_branch(book, branch)]
            self.tells(expected, all_branches(book))

    def test_at_most_five_thousand_branches(self):
        self.assertEqual(17 ** 3, len(all_branches(grid(16, 16, 16))))
        self.assertEqual(5000, len(all_branches(grid(24, 24, 7))))
        self.refused(TooMany, 5000, all_branches, grid(17, 17, 17))
        self.refused(TooMany, 5000, all_branches, grid(15, 15, 15, 15))
        self.assertEqual(61, len(all_branches(Book(row_of_blocks(60)))))

    def test_new_lists_each_time(self):
        all_branches(BOOK).clear()
        self.tells(BRANCHES, all_branches(BOOK))


class JoiningTest(Case):
    def test_joined_and_common(self):
        self.tells((4, 2, 0, 0), joined_branch(BOOK, (4, 0, 0, 0), (1, 2, 0, 0)))
        self.tells((1, 0, 0, 0), common_branch(BOOK, (4, 0, 0, 0), (1, 2, 0, 0)))
        self.tells((4, 5, 3, 0), joined_branch(book=BOOK, one=(4, 0, 3, 0), other=(1, 5, 3, 0)))
        self.tells((1, 0, 3, 0), common_branch(book=BOOK, one=(4, 0, 3, 0), other=(1, 5, 3, 0)))
        self.tells(NOTHING, joined_branch(BOOK, NOTHING, NOTHING))

    def test_either_way_and_again_branches(self):
        for one in BRANCHES:
            for other in BRANCHES:
                joined = joined_branch(BOOK, one, other)
                common = common_branch(BOOK, one, other)
                self.tells(tuple(max(pair) for pair in zip(one, other)), joined)
                self.tells(tuple(min(pair) for pair in zip(one, other)), common)
                self.tells(joined, joined_branch(BOOK, other, one))
                self.tells(common, common_branch(BOOK, other, one))
                self.assertIn(joined, BRANCHES)
                self.assertIn(common, BRANCHES)


class HeadsTest(Case):
    def test_heads(self):
        expected = {(0, 0, 0, 0): [], (1, 0, 0, 0): [(1, 0)], (1, 2, 0, 0): [(2, 1)], (4, 2, 0, 0): [(2, 1), (4, 0)],
                    (4, 5, 3, 0): [(4, 0), (5, 1)], (1, 2, 3, 0): [(2, 1), (3, 2)], (1, 5, 3, 0): [(5, 1)],
                    (4, 2, 3, 0): [(2, 1), (3, 2), (4, 0)]}
        for branch, heads in expected.items():
            self.tells(heads, heads_of(BOOK, branch))
        self.tells([(5, 1)], heads_of(book=BOOK, branch=(1, 5, 3, 0)))

    def test_branch_of_heads(self):
        for branch in BRANCHES:
            heads = heads_of(BOOK, branch)
            self.tells(branch, branch_of(BOOK, heads))
            self.tells(branch, branch_of(BOOK, tuple(reversed(heads))))
        self.tells(NOTHING, branch_of(book=Book(), stamps=()))

    def test_each_set_two_by_two_apart_is_the_heads_of_one_branch(self):
        for book in crossed_books():
            branches = all_branches(book)
            sets = [heads for many in range(5) for heads in itertools.combinations(book.listed(), many)
                    if all(are_apart(book, *pair) for pair in itertools.combinations(heads, 2))]
            self.assertEqual(len(sets), len(branches))
            for heads in sets:
                branch = branch_of(book, heads)
                self.assertIn(branch, branches)
                self.tells(list(heads), heads_of(book, branch))

    def test_no_heads(self):
        for value in (None, True, 0, "", {}, set(), iter([]), BOOK):
            self.refused(NoHeads, None, branch_of, BOOK, value)
        for value in (*STRANGE, ROOT, (2, 0)):
            self.refused(NoHeads, 0, branch_of, BOOK, [value])
            self.refused(NoHeads, 1, branch_of, BOOK, ((4, 0), value, None))

    def test_heads_that_are_not_apart(self):
        self.refused(NoHeads, 1, branch_of, BOOK, [(1, 0), (4, 0)])
        self.refused(NoHeads, 1, branch_of, BOOK, [(4, 0), (1, 0)])
        self.refused(NoHeads, 2, branch_of, BOOK, [(4, 0), (5, 1), (3, 2)])
        self.refused(NoHeads, 2, branch_of, BOOK, [(3, 2), (4, 0), (5, 1), (0, 0)])

    def test_a_head_twice(self):
        self.refused(NoHeads, 1, branch_of, BOOK, [(4, 0), (4, 0)])
        self.refused(NoHeads, 2, branch_of, BOOK, ((4, 0), (5, 1), (4, 0)))


class PartTest(Case):
    def test_part(self):
        self.assertEqual(Book(), part_of(BOOK, NOTHING))
        self.assertEqual(BOOK, part_of(BOOK, (4, 5, 3, 0)))
        self.assertEqual(Book([DEEDS[0], DEEDS[1], DEEDS[3]]), part_of(book=BOOK, branch=(4, 2, 0, 0)))
        for branch in BRANCHES:
            self.tells([one for one in DEEDS if one[0][0] <= branch[one[0][1]]], part_of(BOOK, branch).deeds())
            self.tells(branch, all_of(part_of(BOOK, branch)))

    def test_news(self):
        self.tells([(2, 1), (3, 2), (5, 1)], news_of(BOOK, (1, 5, 3, 0), (4, 0, 0, 0)))
        self.tells([(4, 0)], news_of(book=BOOK, branch=(4, 0, 0, 0), other=(1, 5, 3, 0)))
        self.tells([], news_of(BOOK, NOTHING, (4, 5, 3, 0)))
        for one in BRANCHES:
            for other in BRANCHES:
                missing = [stamp for stamp in part_of(BOOK, one) if stamp not in part_of(BOOK, other)]
                self.tells(missing, news_of(BOOK, one, other))

    def test_lacks(self):
        self.tells([(1, 0), (2, 1), (3, 2)], lacks_of(BOOK, NOTHING, (5, 1)))
        self.tells([(2, 1), (3, 2)], lacks_of(book=BOOK, branch=(4, 0, 0, 0), stamp=(5, 1)))
        self.tells([], lacks_of(BOOK, (1, 0, 0, 0), (4, 0)))
        self.tells([(1, 0)], lacks_of(BOOK, (0, 0, 3, 0), (4, 0)))
        self.tells([], lacks_of(BOOK, NOTHING, (3, 2)))
        for branch in BRANCHES:
            for stamp in part_of(BOOK, branch):
                self.tells([], lacks_of(BOOK, branch, stamp))

    def test_lacks_refuses_stamps_behind_branches(self):
        for value in (*STRANGE, ROOT, (2, 0)):
            self.refused(NoStamp, value, lacks_of, BOOK, NOTHING, value)
