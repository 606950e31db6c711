"""Readers of requests and answers (points 508 to 513)."""

from onepolicy.body_reading import Body
from onepolicy.errors import Unfit
from onepolicy.head_reading import Head
from onepolicy.heads import is_method, is_octets


class Reader:
    """A reader of requests, or of an answer to a method; a narrow or a wide one."""

    def __init__(self, method=None, wide=False):
        if method is not None and not is_method(method):
            raise Unfit()
        self.method = method
        self.wide = wide
        self.many = 0
        self.is_broken = False
        # The head that is read now, or was read last; None behind the text of an answer.
        self.head = Head(method, wide)
        self.body = None

    def feed(self, octets):
        """Take a list of octets; return the list of the values and the fault that they bring; raise Unfit."""
        if not isinstance(octets, list) or not is_octets(octets):
            raise Unfit()
        told, at = [], 0
        while at < len(octets) and not self.is_broken:
            many, word = self._take(octets, at)
            at += many
            self.many += many
            if word is not None:
                self.is_broken = True
                told.append(("fault", word, self.many - 1))
            elif self._is_whole():
                told.append(("value", self._value(), self.many - 1))
                self._begin_next()
        return told

    def _take(self, octets, at):
        """Take an octet or more of a list from a place on; return how many, and the fault of the last, or None."""
        if self.head is None:
            return (1, "end")
        if self.body is not None:
            return self.body.take(octets, at)
        word = self.head.take(octets[at])
        if word is None and self.head.is_whole():
            self._begin_body()
        return (1, word)

    def _begin_body(self):
        told = self.head.body
        if "length" in told:
            self.body = Body(int(told["length"]))
        elif "transfer" in told:
            self.body = Body(None)

    def _is_whole(self):
        """Return whether the text that is read is whole."""
        return self.head.is_whole() and (self.body is None or self.body.is_whole())

    def _value(self):
        body = None if self.body is None else tuple(self.body.octets)
        return self.head.start + (tuple(self.head.headers), body)

    def _begin_next(self):
        # Behind an answer nothing is due.
        self.head = Head(None, self.wide) if self.method is None else None
        self.body = None

    def place(self):
        """Return the number of the octets that were taken, behind a fault up to its octet."""
        return self.many

    def is_between(self):
        """Return True if there is no fault, and no text is begun, or that of an answer is whole."""
        if self.is_broken:
            return False
        return self.head is None or self.head.many == 0

    def copy(self):
        """Return a reader in the same state, that goes on by itself."""
        other = Reader(self.method, self.wide)
        other.many = self.many
        other.is_broken = self.is_broken
        other.head = None if self.head is None else self.head.twin()
        other.body = None if self.body is None else self.body.twin()
        return other
