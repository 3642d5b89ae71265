"""Signs: written names and numbers, as they stand in a text."""

_LETTERS = "abcdefghijklmnopqrstuvwxyz"

_FIGURES = "0123456789"

_FIRST_FIGURES = "123456789"

_MOST_LETTERS = 4


def letters_of(name):
    """The letters of a written name, without its number."""
    return name.rstrip(_FIGURES)


def written_end(text, at):
    """The index behind the written name that begins at the index; the same index, if none does."""
    behind = at
    while behind < at + _MOST_LETTERS and _stands(text, behind, _LETTERS):
        behind += 1
    return behind if behind == at else _positive_end(text, behind)


def number_end(text, at):
    """The index behind the number from 0 to 99 that begins at the index; the same index, if none does."""
    return at + 1 if _stands(text, at, "0") else _positive_end(text, at)


def _positive_end(text, at):
    """The index behind the number from 1 to 99 that begins at the index; the same index, if none does."""
    if not _stands(text, at, _FIRST_FIGURES):
        return at
    return at + 2 if _stands(text, at + 1, _FIGURES) else at + 1


def _stands(text, at, signs):
    """Whether one of the signs stands at the index of the text."""
    return at < len(text) and text[at] in signs
