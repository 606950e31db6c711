"""The tokens of the lines of a policy's text, and the values that they mean (points 541, 542 and 544)."""

from onepolicy.errors import BadText
from onepolicy.heads import DIGITS, LETTERS

MOST_DIGITS = 12
MOST_DEPTH = 20

# What may stand directly behind a word or an integer.
ENDS = " ()\"#"


class Tokens:
    """The tokens of a line with a number, which are read one after the other.

    A token is a tuple (kind, value, place): "word", "integer", "string", "(" or ")", with the place of its first sign.
    """

    def __init__(self, number, line):
        self.number = number
        self.line = line
        self.at = 0

    def sign(self):
        """Return the next sign of the line, or an empty string at its end."""
        return self.line[self.at:self.at + 1]

    def end(self):
        """Return the place behind the last sign of the line."""
        return len(self.line) + 1

    def token(self):
        """Return the next token, or None if none is left; raise BadText where it can't be read."""
        while self.sign() == " ":
            self.at += 1
        sign, place = self.sign(), self.at + 1
        if sign in ("", "#"):
            return None
        if sign in ("(", ")"):
            self.at += 1
            return (sign, None, place)
        if sign == "\"":
            return ("string", self._string(), place)
        if sign in LETTERS:
            return ("word", self._run(LETTERS), place)
        if sign in DIGITS:
            return ("integer", int(self._run(DIGITS)), place)
        raise BadText(self.number, place)

    def _run(self, signs):
        """Return the signs from here on that are some of these, behind which a word or an integer must end."""
        word = ""
        while self.sign() != "" and self.sign() in signs:
            # An integer has no 0 ahead of others, and so many digits.
            if signs == DIGITS and (word == "0" or len(word) == MOST_DIGITS):
                raise BadText(self.number, self.at + 1)
            word += self.sign()
            self.at += 1
        if self.sign() != "" and self.sign() not in ENDS:
            raise BadText(self.number, self.at + 1)
        return word

    def _string(self):
        """Return the signs of a string that begins here."""
        self.at += 1
        signs = []
        while self.sign() != "\"":
            if self.sign() == "\\":
                self.at += 1
                if self.sign() not in ("", "\\", "\""):
                    raise BadText(self.number, self.at + 1)
            if self.sign() == "":
                raise BadText(self.number, self.end())
            signs.append(self.sign())
            self.at += 1
        self.at += 1
        return "".join(signs)


def read_value(tokens, token, depth):
    """Return the value that begins with a token, None at the end of a line, in so many brackets; raise BadText."""
    if token is None:
        raise BadText(tokens.number, tokens.end())
    kind, value, place = token
    if kind == "(":
        if depth == MOST_DEPTH:
            raise BadText(tokens.number, place)
        return _read_tuple(tokens, depth + 1)
    if kind == ")" or kind == "word" and value != "none":
        raise BadText(tokens.number, place)
    return None if kind == "word" else value


def _read_tuple(tokens, depth):
    parts = []
    token = tokens.token()
    while token is None or token[0] != ")":
        parts.append(read_value(tokens, token, depth))
        token = tokens.token()
    return tuple(parts)
