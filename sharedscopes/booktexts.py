"""Texts of books: a row of words for each deed."""

from sharedscopes.basics import is_like
from sharedscopes.books import Book, check_book
from sharedscopes.deeds import is_body, is_deed
from sharedscopes.errors import BadRow, NoBody, NotClosed, TooMany, Unseen
from sharedscopes.words import number_in, value_in, word_for


def write_book(book):
    """The text of the book, its rows by stamps."""
    check_book(book)
    return "\n".join([_row(deed) for deed in book.deeds()])


def read_book(text):
    """The Book of a text, whose rows may stand in any order."""
    if not isinstance(text, str):
        raise BadRow(None)
    rows = text.split("\n") if text else []
    deeds = []
    stamps = set()
    for at, row in enumerate(rows):
        deed = _deed(row.split(" "))
        if not is_deed(deed) or deed[0] in stamps:
            raise BadRow(at)
        deeds.append(deed)
        stamps.add(deed[0])
    return Book(deeds)


def is_book_text(value):
    """Whether any value is the written text of a book."""
    try:
        book = read_book(value)
    except (BadRow, NotClosed, TooMany, Unseen):
        return False
    return is_like(value, write_book(book))


def body_words(body):
    """The words of the body, as a text."""
    if not is_body(body):
        raise NoBody(body)
    return " ".join([word_for(part) for part in body])


def body_of(words):
    """The body whose words the text is."""
    body = _body(words.split(" ")) if isinstance(words, str) else None
    if not is_body(body):
        raise BadRow(None)
    return body


def _row(deed):
    """The row of the deed."""
    stamp, seen, body = deed
    return " ".join([str(number) for number in stamp + seen] + [body_words(body)])


def _deed(words):
    """What would be the deed of these words, were they those of one."""
    numbers = tuple([number_in(word) for word in words[:6]])
    return (numbers[:2], numbers[2:], _body(words[6:]))


def _body(words):
    """What would be the body of these words, were they those of one."""
    return tuple([value_in(word) for word in words])
