"""Workers: plain workers behind channels (points 741 to 743)."""

from onepolicy.links import Receiver, Sender
from onepolicy.plain import Plain
from onepolicy.versions import policy_of


def _copied(version):
    """Return a pair of a policy and a cut with a dict of its own."""
    policy, cut = version
    return ({**policy}, cut)


class Worker:
    """A worker with its ends of the channels, in a life, which does not go on yet."""

    def __init__(self, ground, w, life):
        self.ground = ground
        self.w = w
        self.life = life
        self.sender = Sender(life)
        self.receiver = Receiver(life)
        self.plain = None
        self.versions = {}

    def twin(self):
        """Return an independent copy."""
        other = Worker(self.ground, self.w, self.life)
        other.sender = self.sender.twin()
        other.receiver = self.receiver.twin()
        other.plain = None if self.plain is None else self.plain.twin()
        other.versions = {number: _copied(self.versions[number]) for number in self.versions}
        return other

    def begin(self, moment, versions):
        """Go on as a plain worker at its beginning, with a row of triples of a number, a policy's values and a cut."""
        self.plain = Plain(self.ground, self.w, moment)
        self.versions = {number: (policy_of(values), cut) for number, values, cut in versions}

    def take(self, body):
        """Take a body; return the pair of what an event brings about, or None, and the list of the bodies answered."""
        if body[0] == "event":
            _, n, moment, v, event = body
            outputs, fates = self.plain.take(self.versions, n, moment, v, event)
            return ((n, outputs, fates), [])
        if body[0] == "have":
            _, v, values, cut = body
            self.versions[v] = (policy_of(values), cut)
            return (None, [self._answer_to_order(v)])
        if body[0] == "drop":
            del self.versions[body[1]]
            return (None, [])
        _, _, moment, versions = body
        self.begin(moment, versions)
        # Behind the stamped version stands the ordered one, if there is one.
        return (None, [self._answer_to_order(versions[1][0])] if len(versions) > 1 else [])

    def _answer_to_order(self, v):
        if self.plain.living() > self.versions[v][0]["room"]:
            return ("not", v, "room")
        return ("has", v)
