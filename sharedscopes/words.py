"""Words: numbers, stamps, the root and None, as they stand in a text of a book or in a line."""

from sharedscopes.deeds import is_thing

_NONE = "-"

_FIGURES = "0123456789"

_MOST_FIGURES = 3


def word_for(value):
    """The word for a number, a stamp, the root, None, or a text, which is its own word."""
    if value is None:
        return _NONE
    if isinstance(value, tuple):
        return str(value[0]) + "." + str(value[1])
    return str(value)


def value_in(word):
    """What the word stands for; a word that stands for nothing else is a text."""
    if word == _NONE:
        return None
    number = number_in(word)
    if number is not None:
        return number
    thing = thing_in(word)
    return word if thing is None else thing


def number_in(word):
    """The number from 0 to 999 that the word is in figures, without a 0 ahead, or None."""
    if not 1 <= len(word) <= _MOST_FIGURES or not all([sign in _FIGURES for sign in word]):
        return None
    return None if word[0] == "0" and word != "0" else int(word)


def thing_in(word):
    """The stamp, or the root, that the word stands for, or None."""
    time, _, hand = word.partition(".")
    thing = (number_in(time), number_in(hand))
    return thing if is_thing(thing) else None
