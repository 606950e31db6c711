"""Bodies, read octet by octet: of a number of octets, or in pieces (points 505 and 509)."""

from onepolicy.heads import CR, LF, MOST_BODY, is_size, sign_of

HEX_DIGITS = "0123456789abcdef"


class Body:
    """What has come of a body: of so many octets, or, for None, in pieces."""

    def __init__(self, size):
        self.octets = []
        self.in_pieces = size is None
        self.stage = "size" if size is None else "octets"
        self.rest = 0 if size is None else size
        self.word = ""

    def twin(self):
        """Return the same body, that goes on by itself."""
        other = Body(None)
        other.octets = list(self.octets)
        other.in_pieces = self.in_pieces
        other.stage = self.stage
        other.rest = self.rest
        other.word = self.word
        return other

    def is_whole(self):
        """Return whether all of it has come."""
        return self.stage == "whole" or not self.in_pieces and self.rest == 0

    def take(self, octets, at):
        """Take an octet or more of a list from a place on; return how many, and the fault of the last, or None."""
        if self.stage == "octets":
            part = octets[at:at + self.rest]
            self.octets.extend(part)
            self.rest -= len(part)
            if self.rest == 0 and self.in_pieces:
                self.stage = "piece CR"
            return (len(part), None)
        if self.stage in ("size", "size LF"):
            return (1, _take_of_size(self, octets[at]))
        return (1, _take_behind(self, octets[at]))


def _take_of_size(body, octet):
    """Take an octet in the line of a size; return the word of its fault, or None."""
    if body.stage == "size LF":
        return _take_end_of_size(body, octet)
    sign = sign_of(octet)
    if sign == "" and octet != CR:
        return "control"
    if octet == CR and body.word != "":
        body.stage = "size LF"
        return None
    # A CR that ends no size has no sign, and so makes none.
    if not is_size(body.word + sign):
        return "size"
    if len(body.octets) + size_of_word(body.word + sign) > MOST_BODY:
        return "long"
    body.word += sign
    return None


def _take_end_of_size(body, octet):
    if octet != LF:
        return "control"
    body.rest = size_of_word(body.word)
    body.word = ""
    body.stage = "last CR" if body.rest == 0 else "octets"
    return None


def size_of_word(word):
    """Return the number that a right size means."""
    number = 0
    for sign in word:
        number = 16 * number + HEX_DIGITS.index(sign)
    return number


# Which octet is due behind the octets of a piece, and behind the size 0, and what comes then.
DUE = {
    "piece CR": (13, "piece LF"),
    "piece LF": (10, "size"),
    "last CR": (13, "last LF"),
    "last LF": (10, "whole"),
}


def _take_behind(body, octet):
    """Take an octet of the end of a piece, or of the last one; return the word of its fault, or None."""
    due, stage = DUE[body.stage]
    if octet != due:
        return "piece"
    body.stage = stage
    return None
