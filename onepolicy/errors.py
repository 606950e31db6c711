"""The errors that the program raises on purpose (point 1)."""


class Refused(ValueError):
    """The base of all errors that the program raises on purpose."""


class Misstep(Refused):
    """A step of the edge, or of the door, is not possible."""

    def __init__(self, word):
        self.word = word


class Wrong(Refused):
    """A policy is not right."""

    def __init__(self, word, place):
        self.word = word
        self.place = place


class Unread(Refused):
    """Octets are no packet."""

    def __init__(self, word):
        self.word = word


class Beyond(Refused):
    """A field of a packet is not as it is told."""

    def __init__(self, field):
        self.field = field


class Unfit(Refused):
    """A value is none of those that are asked for."""


class BadText(Refused):
    """The text of a policy can't be read."""

    def __init__(self, line, place):
        self.line = line
        self.place = place
