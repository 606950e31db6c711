"""The events that the judge has read: which of them can come (points 711 and 750)."""

from onepolicy.door import is_client, is_connection, is_deed, is_name, is_side
from onepolicy.heads import is_octets, is_request
from onepolicy.steering import mixed, steered

# How many parts the events have.
PARTS = {"packet": 3, "tick": 1, "request": 4, "fault": 4, "gone": 3, "inside": 4}


class Events:
    """What is known of the events that came."""

    def __init__(self, ground):
        self.ground = ground
        # The worker and the moment of the next tick of a row that has begun, or None.
        self.tick = None
        # From the number of each connection to its client, to how many names it has, and to what ended it, if anything.
        self.clients = {}
        self.names = {}
        self.ends = {}

    def can_come(self, moment, w, event):
        """Return whether an event, a tuple of values of any kind, can come at a moment for a worker."""
        if not isinstance(event[0], str) or len(event) != PARTS.get(event[0], 0):
            return False
        if event[0] == "tick":
            return w == 0 if self.tick is None else (w, moment) == self.tick
        if self.tick is not None:
            return False
        if event[0] == "packet":
            return self._is_packet(event) and w == steered(self.ground, event[2])
        if event[0] == "inside":
            return self._is_told(event) and w == self._worker_of(self.clients[event[1][0]])
        if event[0] == "gone":
            return self._is_closing(event) and w == self._worker_of(event[2])
        return self._is_next(event) and w == self._worker_of(event[2])

    def _worker_of(self, client):
        return mixed(client) % self.ground[3]

    def _is_packet(self, event):
        return is_side(event[1]) and isinstance(event[2], tuple) and is_octets(event[2])

    def _is_told(self, event):
        """Return whether a reaction is one to a request that came."""
        if not is_deed(event):
            return False
        connection, index = event[1]
        return index < self.names.get(connection, 0)

    def _is_closing(self, event):
        _, connection, client = event
        if not is_connection(connection) or not is_client(client):
            return False
        return self.clients.get(connection, client) == client and self.ends.get(connection) != "gone"

    def _is_next(self, event):
        """Return whether a request or a fault is the next one of its connection."""
        kind, name, client, value = event
        if not is_name(name) or not is_connection(name[0]) or not is_client(client):
            return False
        is_right = is_request(value, False) if kind == "request" else isinstance(value, str)
        connection, index = name
        if not is_right or index != self.names.get(connection, 0) or connection in self.ends:
            return False
        return self.clients.get(connection, client) == client

    def take(self, moment, w, event):
        """Take an event that can come."""
        if event[0] == "tick":
            self.tick = (w + 1, moment) if w + 1 < self.ground[3] else None
        elif event[0] == "gone":
            self.ends[event[1]] = "gone"
        elif event[0] in ("request", "fault"):
            connection, index = event[1]
            self.clients[connection] = event[2]
            self.names[connection] = index + 1
            if event[0] == "fault":
                self.ends[connection] = "fault"
