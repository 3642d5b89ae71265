"""Branches: how far of each hand's deeds are taken."""

from sharedscopes.basics import are_at_most, is_listing, is_number, is_tuple_of
from sharedscopes.books import Book, are_closed, check_book, check_stamp, stand_apart
from sharedscopes.deeds import has_seen_stamp
from sharedscopes.errors import NoBranch, NoHeads, TooMany

MOST_BRANCHES = 5000


def is_branch(book, value):
    """Whether any value is a branch of the book."""
    check_book(book)
    return is_tuple_of(value, 4) and all([is_number(time) for time in value]) and are_closed(book, value)


def check_branch(book, branch):
    """Refuse what is no Book, then what is no branch of the book."""
    if not is_branch(book, branch):
        raise NoBranch(branch)


def all_of(book):
    """The branch of all deeds of the book."""
    check_book(book)
    return tuple([book.last(hand) for hand in range(4)])


def closure_of(book, stamp):
    """The branch of the deed and all that it has seen."""
    check_book(book)
    check_stamp(book, stamp)
    return _closure(book[stamp])


def joined_branch(book, one, other):
    """The branch of the deeds of either branch."""
    check_branch(book, one)
    check_branch(book, other)
    return _joined(one, other)


def common_branch(book, one, other):
    """The branch of the deeds of both branches."""
    check_branch(book, one)
    check_branch(book, other)
    return tuple([min(pair) for pair in zip(one, other)])


def heads_of(book, branch):
    """The stamps of the branch that no other deed of it has seen, ascending."""
    check_branch(book, branch)
    stamps = _taken(book, branch)
    return [stamp for stamp in stamps if not any([has_seen_stamp(book[other], stamp) for other in stamps])]


def branch_of(book, stamps):
    """The branch that has these stamps as its heads."""
    check_book(book)
    if not is_listing(stamps):
        raise NoHeads(None)
    branch = (0, 0, 0, 0)
    for at, stamp in enumerate(stamps):
        if stamp not in book or not _is_apart_from(book, stamp, stamps[:at]):
            raise NoHeads(at)
        branch = _joined(branch, _closure(book[stamp]))
    return branch


def part_of(book, branch):
    """The Book of the branch's deeds."""
    check_branch(book, branch)
    return Book([book[stamp] for stamp in _taken(book, branch)])


def news_of(book, branch, other):
    """The stamps that the first branch has and the other one lacks, ascending."""
    check_branch(book, branch)
    check_branch(book, other)
    return [stamp for stamp in _taken(book, branch) if not has_stamp(other, stamp)]


def lacks_of(book, branch, stamp):
    """The stamps, but this one, of the deed's closure that the branch lacks, ascending."""
    check_branch(book, branch)
    check_stamp(book, stamp)
    taken = _taken(book, _closure(book[stamp]))
    return [other for other in taken if other != stamp and not has_stamp(branch, other)]


def all_branches(book):
    """All branches of the book, ascending."""
    check_book(book)
    branches = [()]
    for hand in range(4):
        # Each beginning goes on to some branch, so there are never more beginnings than branches.
        branches = _longer(book, hand, branches)
        if len(branches) > MOST_BRANCHES:
            raise TooMany(MOST_BRANCHES)
    return branches


def has_stamp(branch, stamp):
    """Whether the branch has the deed of this stamp of its book."""
    return stamp[0] <= branch[stamp[1]]


def _taken(book, branch):
    """The stamps of the branch, ascending."""
    return [stamp for stamp in book if has_stamp(branch, stamp)]


def _closure(deed):
    """What the deed has seen, with its own time for its hand."""
    stamp, seen, _ = deed
    return tuple([stamp[0] if hand == stamp[1] else time for hand, time in enumerate(seen)])


def _joined(one, other):
    """The greater of each entry."""
    return tuple([max(pair) for pair in zip(one, other)])


def _is_apart_from(book, stamp, others):
    """Whether the stamp is none of the others, and its deed apart from all of them."""
    return all([stamp != other and stand_apart(book, stamp, other) for other in others])


def _longer(book, hand, beginnings):
    """The beginnings of branches, each with each time of the hand that may stand behind it, ascending."""
    closures = [(0, 0, 0, 0)] + [_closure(book[stamp]) for stamp in book if stamp[1] == hand]
    longer = []
    for beginning in beginnings:
        least = _time_seen_by(book, hand, beginning)
        for closure in closures:
            if closure[hand] >= least and are_at_most(closure[:hand], beginning):
                longer.append((*beginning, closure[hand]))
        if len(longer) > MOST_BRANCHES:
            break
    return longer


def _time_seen_by(book, hand, beginning):
    """Up to which time the last deeds of a beginning of a branch have seen the hand."""
    seen = [book[(time, other)][1][hand] for other, time in enumerate(beginning) if time != 0]
    return max(seen, default=0)
