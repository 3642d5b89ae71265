"""Texts, and the plain programs that they are."""

from sharedscopes.basics import is_from
from sharedscopes.errors import BadText, NoIndex
from sharedscopes.scans import Scan, nested


def plain_of(text):
    """The plain program: the tuple of the text's items."""
    scan = Scan(text)
    return nested(scan.paths, scan.heads)


def is_text(value):
    """Whether any value is a text as the grammar has it."""
    try:
        Scan(value)
    except BadText:
        return False
    return True


def spans_of(text):
    """The list of (path, index of the first sign, index behind the last one) of all items, as they begin."""
    scan = Scan(text)
    return list(zip(scan.paths, scan.firsts, scan.behinds))


def item_at(text, index):
    """The path of the innermost item whose span holds the index, () if there is none."""
    spans = spans_of(text)
    if not is_from(index, 0, len(text) - 1):
        raise NoIndex(index)
    around = [path for path, first, behind in spans if first <= index < behind]
    return around[-1] if around else ()
