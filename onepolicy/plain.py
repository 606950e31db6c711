"""The plain worker: what becomes of events without any messages (points 730 to 735)."""

from onepolicy.answers import expired, refusing
from onepolicy.balance import swept_clients
from onepolicy.desks import (
    ask_limits, give_back_limits, give_back_server, look_at, new_desk, take_limits, take_server,
)
from onepolicy.errors import Unread
from onepolicy.flows import DUE, carry, cut_below, may_open, new_book, opened, swept
from onepolicy.ground import is_inside, is_own, side_of, wrong_side
from onepolicy.limits import turned
from onepolicy.packet_reading import read_packet
from onepolicy.packet_writing import write_packet
from onepolicy.plans import planned
from onepolicy.sending import Lives
from onepolicy.tables import decider, point_of, verdict
from onepolicy.ways import way_of


def _asker(ground, packet, server, service):
    """Return who asks the limits of a rule for a packet that goes to a server of a service, or to neither."""
    ends = [packet[1], packet[2]]
    outside = [end for end in ends if not is_inside(ground, end) and not is_own(ground, end)]
    if server is not None:
        ends.append(server[1])
    inside = [end for end in ends if is_inside(ground, end)]
    return (way_of(packet)[0], _first(outside), _first(inside), service)


def _first(rows):
    return rows[0] if len(rows) > 0 else None


def _frozen(output):
    """Return an output with a tuple for a list of octets."""
    return tuple([tuple(part) if isinstance(part, list) else part for part in output])


class Plain:
    """A plain worker with the number w, at its beginning, or at that of a life behind a fall at a moment."""

    def __init__(self, ground, w, moment):
        self.book = new_book(ground, w, moment)
        self.desk = new_desk()
        self.requests = Lives()
        # From the numbers of flows that were forwarded to what their servers have of them.
        self.given = {}
        self.greatest_cut = 0
        # The limits of the version of the last event.
        self.limits = ()

    def twin(self):
        """Return an independent copy."""
        other = Plain(self.book["ground"], self.book["part"], None)
        # What stands in a book, or in a desk, is never changed, only replaced.
        other.book = self.book
        other.desk = {**self.desk}
        other.requests = self.requests.twin()
        other.given = {**self.given}
        other.greatest_cut = self.greatest_cut
        other.limits = self.limits
        return other

    def living(self):
        """Return the number of the flows."""
        return len(self.book["flows"])

    def take(self, versions, number, moment, version, event):
        """Take an event; return the pair of the lists of outputs and of fates."""
        policy, cut = versions[version]
        self._replace(swept(self.book, moment), moment)
        ended = self._cut(cut, moment)
        self._turn_limits(policy["limits"])
        late = self.requests.over(versions, version, moment, self.desk)
        self.desk["balance"] = swept_clients(policy["services"], self.desk["balance"], moment)
        done = self._take_event(versions, version, moment, event)
        outputs = ended[0] + late[0] + done[0]
        return ([_frozen(output) for output in outputs], ended[1] + late[1] + done[1])

    def _replace(self, book, moment):
        """Take a book of a moment in the place of the one before; what flows had that ended is given back."""
        flows = self.book["flows"]
        for number in flows:
            if number not in book["flows"]:
                self._give_back(number, min(flows[number][DUE], moment))
        self.book = book

    def _give_back(self, number, moment):
        give_back_limits(self.desk, number)
        if number in self.given:
            give_back_server(self.desk, self.given.pop(number), moment)

    def _cut(self, cut, moment):
        """Cut what is of lesser versions, if no event before had so great a cut."""
        if cut <= self.greatest_cut:
            return ([], [])
        self.greatest_cut = cut
        book, _ = cut_below(self.book, moment, cut)
        self._replace(book, moment)
        return self.requests.cut(cut, moment, self.desk)

    def _turn_limits(self, limits):
        """Go from the limits of the event before to those of this one."""
        if limits != self.limits:
            self.desk["states"] = turned(self.desk["states"], self.limits, limits)
            self.limits = limits

    def _take_event(self, versions, version, moment, event):
        kind = event[0]
        if kind == "packet":
            outputs, fate = self._take_packet(versions[version][0], version, moment, event[1], list(event[2]))
            return (outputs, [fate])
        if kind == "request":
            return self.requests.request(versions, version, moment, event[1], event[2], event[3], self.desk)
        if kind == "fault":
            return self.requests.fault(versions, version, moment, event[1], event[2], event[3], self.desk)
        if kind == "gone":
            return self.requests.gone(versions, version, moment, event[1], self.desk)
        if kind == "inside":
            reaction = event[3][1] if event[3][0] == "answer" else event[3]
            return self.requests.inside(versions, version, moment, event[1], event[2], reaction, self.desk)
        return ([], [])

    def _take_packet(self, policy, version, moment, side, octets):
        """Return the pair of the list of outputs and the fate of a packet."""
        try:
            packet = read_packet(octets)
        except Unread as error:
            return ([], ("drop", error.word))
        if wrong_side(self.book["ground"], side, packet):
            return ([], ("drop", "side"))
        book, answer = carry(self.book, moment, packet)
        self._replace(book, moment)
        if answer[0] == "out":
            return (self._sent(answer[1]), ("flow", answer[2]))
        if answer[0] == "drop":
            return self._dropped(packet, answer[1])
        if not may_open(packet):
            return self._dropped(packet, "stray")
        return self._take_new(policy, version, moment, side, packet)

    def _sent(self, packet):
        """Return the list of the output that sends a packet; for None it is empty."""
        if packet is None:
            return []
        return [("send", side_of(self.book["ground"], packet), write_packet(packet))]

    def _dropped(self, packet, word):
        """Return the pair of the outputs and the fate of a packet that is dropped with a word."""
        answer = expired(self.book["ground"], packet) if word == "hops" else None
        return (self._sent(answer), ("drop", word))

    def _take_new(self, policy, version, moment, side, packet):
        """Return the pair of the outputs and the fate of a packet that may open a flow."""
        point = point_of(side, packet)
        fate, names = verdict(policy["rules"], point)
        if fate[0] == "drop":
            return self._dropped(packet, "rules")
        if fate[0] == "refuse":
            return (self._sent(refusing(self.book["ground"], packet)), ("refuse",))
        if packet[3] == 1:
            return self._dropped(packet, "hops")
        number, answer = self._open(policy, version, moment, packet, fate, names)
        if answer[0] == "drop":
            return self._dropped(packet, answer[1])
        return (self._sent(answer[1]), ("opened", number, decider(policy["rules"], point)))

    def _open(self, policy, version, moment, packet, fate, names):
        """Open a flow for a packet; return the pair of its number and the answer, or of None and ("drop", word)."""
        ground, desk, client = self.book["ground"], self.desk, packet[1]
        service = fate[1] if fate[0] == "forward" else None
        server = None if service is None else look_at(policy, desk, service, client, moment)
        plan = planned(ground, fate, policy["times"], packet, None if server is None else server[1:3])
        if plan[0] == "drop":
            return (None, plan)
        book, answer = opened(self.book, moment, packet, plan, version, policy["room"])
        if answer[0] == "drop":
            return (None, answer)
        asked = ask_limits(policy, desk, names, moment, _asker(ground, packet, server, service))
        if asked[0] != "let":
            return (None, ("drop", "limit"))
        # All let the packet by: only now something is taken.
        number = answer[2]
        self.book = book
        take_limits(desk, number, asked)
        if service is not None:
            self.given[number] = (service, take_server(policy, desk, service, client, moment), client)
        return (number, answer)
