"""The door: what arrives there, and the events that it makes of it (points 710 to 713)."""

from onepolicy.addresses import is_plain
from onepolicy.boxes import is_number
from onepolicy.errors import Misstep
from onepolicy.heads import is_octets
from onepolicy.reading import Reader
from onepolicy.steering import mixed, steered

MOST_CONNECTION = 999999999


def is_whole(value, low):
    """Return whether a value of any kind is an integer from a number on."""
    return is_number(value) and value >= low


def are_octets(value):
    """Return whether a value of any kind is a list or tuple of octets."""
    return is_octets(value)


def is_name(value):
    """Return whether a value of any kind is the name of a request."""
    return isinstance(value, tuple) and len(value) == 2 and is_whole(value[0], 1) and is_whole(value[1], 0)


def is_reaction(value):
    """Return whether a value of any kind is a reaction."""
    if not isinstance(value, tuple):
        return value in ("refused", "broken")
    return len(value) == 2 and value[0] == "answer" and isinstance(value[1], tuple) and _is_firm(value[1])


def _is_firm(value):
    """Return whether no list and no dict stands in a tuple."""
    # On a pile, as tuples may be nested deeper than calls may be.
    pile = [value]
    while len(pile) > 0:
        part = pile.pop()
        if isinstance(part, (list, dict)):
            return False
        if isinstance(part, tuple):
            pile.extend(part)
    return True


def is_connection(value):
    """Return whether a value of any kind is the number of a connection."""
    return is_whole(value, 1) and value <= MOST_CONNECTION


def is_client(value):
    """Return whether a value of any kind is the address of a client."""
    return is_number(value) and is_plain(value)


def is_side(value):
    """Return whether a value of any kind is a side."""
    return value in ("in", "out")


def is_deed(value):
    """Return whether a tuple of four is what the inside did at a call, as an arrival or as an event."""
    return is_name(value[1]) and is_whole(value[2], 1) and is_reaction(value[3])


def is_arrival(value):
    """Return whether a value of any kind is an arrival."""
    if not isinstance(value, tuple) or len(value) == 0:
        return False
    if value[0] == "tick":
        return len(value) == 1
    if value[0] == "packet":
        return len(value) == 3 and is_side(value[1]) and are_octets(value[2])
    if value[0] == "piece":
        return len(value) == 4 and is_connection(value[1]) and is_client(value[2]) and are_octets(value[3])
    return value[0] == "inside" and len(value) == 4 and is_deed(value)


def _copied(reader):
    return None if reader is None else reader.copy()


class Door:
    """The door of an edge, without connections, at the moment 0."""

    def __init__(self, ground):
        self.ground = ground
        self.last = 0
        self.number = 0
        self.greatest = 0
        # From the number of each connection to its client, to how many names it has, and to its reader, None if closed.
        self.clients = {}
        self.names = {}
        self.readers = {}

    def twin(self):
        """Return an independent copy."""
        other = Door(self.ground)
        other.last = self.last
        other.number = self.number
        other.greatest = self.greatest
        other.clients = {**self.clients}
        other.names = {**self.names}
        other.readers = {connection: _copied(self.readers[connection]) for connection in self.readers}
        return other

    def moment(self):
        """Return the moment of the last arrival, 0 if there was none."""
        return self.last

    def next(self):
        """Return the next number, from 1 on; each call gives another one."""
        self.number += 1
        return self.number

    def events(self, moment, arrival):
        """Take what arrives; return the list of the pairs of a worker and an event; raise Misstep."""
        if not is_arrival(arrival) or not is_whole(moment, 0):
            raise Misstep("form")
        if moment < self.last:
            raise Misstep("moment")
        if not self._is_known(arrival):
            raise Misstep("connection")
        self.last = moment
        workers = self.ground[3]
        if arrival[0] == "tick":
            return [(w, ("tick",)) for w in range(workers)]
        if arrival[0] == "packet":
            octets = tuple(arrival[2])
            return [(steered(self.ground, octets), ("packet", arrival[1], octets))]
        if arrival[0] == "piece":
            return [(mixed(arrival[2]) % workers, event) for event in self._events_of_piece(arrival)]
        return [(mixed(self.clients[arrival[1][0]]) % workers, arrival)]

    def _is_known(self, arrival):
        """Return whether nothing is wrong with the connection of an arrival."""
        if arrival[0] == "inside":
            connection, index = arrival[1]
            return index < self.names.get(connection, 0)
        if arrival[0] != "piece":
            return True
        connection, client = arrival[1], arrival[2]
        if connection not in self.clients:
            return connection > self.greatest
        return self.clients[connection] == client and self.readers[connection] is not None

    def _events_of_piece(self, arrival):
        """Return the list of the events that a piece brings."""
        _, connection, client, octets = arrival
        if connection not in self.clients:
            self.greatest = connection
            self.clients[connection] = client
            self.names[connection] = 0
            self.readers[connection] = Reader()
        if len(octets) == 0:
            self.readers[connection] = None
            return [("gone", connection, client)]
        events = []
        for word, told, _ in self.readers[connection].feed(list(octets)):
            name = (connection, self.names[connection])
            self.names[connection] += 1
            events.append(("request" if word == "value" else "fault", name, client, told))
        return events
