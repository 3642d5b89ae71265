"""Scans: a text taken apart into its items, as they begin."""

from sharedscopes.deeds import does_hold
from sharedscopes.errors import BadText
from sharedscopes.signs import number_end, written_end


class Scan:
    """The items of a text: their paths, heads, and spans. A head is an item without what it holds."""

    def __init__(self, text):
        if not isinstance(text, str):
            raise BadText(0)
        self.paths = []
        self.heads = []
        self.firsts = []
        self.behinds = []
        self._text = text
        self._at = 0
        # The numbers of the items whose brackets are not closed yet, and how many items each of them has so far.
        self._around = []
        self._counts = [0]
        self._run()

    def _run(self):
        if self._text:
            self._begin()
        while self._at < len(self._text):
            sign = self._text[self._at]
            if sign == ")" and self._around:
                self._close()
            elif self._is_in_new_block():
                self._begin()
            elif sign == " ":
                self._at += 1
                self._begin()
            else:
                raise BadText(self._at)
        if self._around:
            raise BadText(self._at)

    def _is_in_new_block(self):
        """Whether an item can only begin here without a blank ahead of it."""
        return self._counts[-1] == 0 and self.heads[self._around[-1]] == ("block",)

    def _begin(self):
        """Take in the item that begins here, or the bracket with which it begins."""
        head, behind = _head(self._text, self._at)
        holder = self.paths[self._around[-1]] if self._around else ()
        self.paths.append((*holder, self._counts[-1]))
        self.heads.append(head)
        self.firsts.append(self._at)
        self.behinds.append(behind)
        self._counts[-1] += 1
        if does_hold(head[0]):
            self._around.append(len(self.heads) - 1)
            self._counts.append(0)
        self._at = behind

    def _close(self):
        """Take in the sign that closes the innermost bracket."""
        self._at += 1
        self.behinds[self._around.pop()] = self._at
        self._counts.pop()


def nested(paths, heads):
    """The tuple of the items with these paths and heads, each that holds others with the tuple of these behind it."""
    parts = {(): []}
    for path, head in zip(paths[::-1], heads[::-1]):
        item = (*head, _in_order(parts.get(path, []))) if does_hold(head[0]) else head
        parts.setdefault(path[:-1], []).append(item)
    return _in_order(parts[()])


def _in_order(parts):
    """The tuple of items that were taken in from the last one on."""
    return tuple(parts[::-1])


def _head(text, at):
    """The head of the item that begins at the index, and the index behind this head."""
    sign = text[at:at + 1]
    if sign == "(":
        return _bracket(text, at + 1)
    if sign == "?":
        return ("lost",), at + 1
    behind = written_end(text, at)
    if behind > at:
        return ("use", text[at:behind]), behind
    behind = number_end(text, at)
    if behind > at:
        return ("number", int(text[at:behind])), behind
    raise BadText(at)


def _bracket(text, at):
    """The head of the item whose bracket ends at the index, and the index behind this head."""
    sign = text[at:at + 1]
    if sign == "+":
        return ("sum",), at + 1
    if sign == "*":
        return ("product",), at + 1
    behind = written_end(text, at)
    if behind > at and text[behind:behind + 2] == " =":
        return ("let", text[at:behind]), behind + 2
    return ("block",), at
