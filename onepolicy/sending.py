"""What goes inside and outside for requests, and the lives of requests at a worker (points 560 to 569)."""

from onepolicy.balance import eligible
from onepolicy.desks import (
    ask_limits, give_back_limits, give_back_server, index_of, look_at, take_limits, take_server,
)
from onepolicy.headers import inside_headers, outside_headers
from onepolicy.heads import answers_have_body, is_answer, is_repeatable, values_of
from onepolicy.paths import normal, print_target
from onepolicy.routes import LIMITS, PUT, SERVICE, TAKE, TRIES, WAIT, error_row, route_of
from onepolicy.writing import write_answer, write_request


def inside_octets(policy, route, client, name, request):
    """Return the list of the octets of a call of a request."""
    method, target, given, body = request
    headers = inside_headers(policy["headers"], policy["trusted"], client, name, given)
    return write_request((method, _inside_target(route, target), headers, body))


def _inside_target(route, target):
    segments, ends, query = normal(target)
    segments = route[PUT] + segments[route[TAKE]:]
    return print_target((segments, ends or len(segments) == 0, query))


def outside_octets(policy, method, answer):
    """Return the list of the octets that are told for an answer to a method."""
    status, given, body = answer
    return write_answer((status, outside_headers(policy["headers"], given), body), method)


def own_octets(policy, method, word):
    """Return the list of the octets of the edge's own answer with a word to a method."""
    status, text = error_row(policy["errors"], word)
    body = tuple([ord(sign) for sign in text]) if answers_have_body(method) else None
    return write_answer((status, (("content", "text"),), body), method)


def _bar_of(policy, client, request, desk, moment):
    """Return the pair of the first word that keeps a request from living and None, or of None and what lets it.

    What lets it is the pair of its route and of the answer of its limits.
    """
    form = normal(request[1])
    if form is None:
        return ("refused", None)
    index = route_of(policy["routes"], request[0], values_of(request[2], "host")[0], form[0])
    if index is None:
        return ("no route", None)
    route = policy["routes"][index]
    if look_at(policy, desk, route[SERVICE], client, moment) is None:
        return ("none", None)
    answer = ask_limits(policy, desk, route[LIMITS], moment, ("request", client, None, route[SERVICE]))
    if answer[0] != "let":
        return ("limit", None)
    return (None, (route, answer))


def _further_server(policy, life):
    """Return the name of the first eligible server to which no call of a life has gone, or None."""
    service = policy["services"][index_of(policy["services"], life["route"][SERVICE])]
    for place in eligible(service):
        if service[1][place][0] not in life["servers"]:
            return service[1][place][0]
    return None


class Lives:
    """The connections of a worker, and the requests that live or wait there.

    A life is a dict: "name", "client" and "request"; "version" and "route"; "servers", the tuple of the names of the
    servers of all calls; "due", at which the last call is over; "given", what the first server has of it, or None.
    What is told is a pair of lists, of outputs and of fates, to which the methods append.
    """

    def __init__(self):
        # From the number of each known connection to its client.
        self.clients = {}
        # From it to the tuple of what waits there: triples of a name, a kind, and a request or a word.
        self.waiting = {}
        # From the numbers of those connections that have a call under way to the life.
        self.under_way = {}

    def twin(self):
        """Return the same lives, that go on by themselves."""
        other = Lives()
        other.clients = {**self.clients}
        other.waiting = {**self.waiting}
        other.under_way = {number: {**self.under_way[number]} for number in self.under_way}
        return other

    def request(self, versions, version, moment, name, client, request, desk):
        """Take a request; return the lists of outputs and fates; this changes the desk."""
        return self._come(versions, version, moment, client, (name, "request", request), desk)

    def fault(self, versions, version, moment, name, client, word, desk):
        """Take a fault; return the lists of outputs and fates; this changes the desk."""
        return self._come(versions, version, moment, client, (name, "fault", word), desk)

    def _come(self, versions, version, moment, client, row, desk):
        number, index = row[0]
        if number not in self.clients:
            if index > 0:
                return ([], [(row[0], ("unknown", 0))])
            self.clients[number] = client
            self.waiting[number] = ()
        self.waiting[number] = self.waiting[number] + (row,)
        told = ([], [])
        self._turns(versions, version, moment, number, desk, told)
        return told

    def _turns(self, versions, version, moment, number, desk, told):
        """Let turns come at a connection until a call is under way, or nothing waits."""
        policy = versions[version][0]
        while number not in self.under_way and len(self.waiting.get(number, ())) > 0:
            name, kind, value = self.waiting[number][0]
            self.waiting[number] = self.waiting[number][1:]
            if kind == "fault":
                told[0].append(("tell", number, own_octets(policy, "GET", "refused")))
                told[0].append(("close", number))
                told[1].append((name, ("fault", value)))
                self._forget(number)
            else:
                self._begin(policy, version, moment, name, value, desk, told)

    def _forget(self, number):
        del self.clients[number]
        del self.waiting[number]

    def _begin(self, policy, version, moment, name, request, desk, told):
        """Begin the life of a request, or end it at once."""
        client = self.clients[name[0]]
        word, found = _bar_of(policy, client, request, desk, moment)
        if word is not None:
            told[0].append(("tell", name[0], own_octets(policy, request[0], word)))
            told[1].append((name, (word, 0)))
            return
        route, answer = found
        server = take_server(policy, desk, route[SERVICE], client, moment)
        take_limits(desk, name, answer)
        life = {
            "name": name, "client": client, "request": request, "version": version, "route": route,
            "servers": (), "due": moment, "given": (route[SERVICE], server, client),
        }
        self.under_way[name[0]] = life
        self._call(policy, life, server, moment, told)

    def _call(self, policy, life, server, moment, told):
        """Let the next call of a life go out to a server."""
        route, name = life["route"], life["name"]
        life["servers"] = life["servers"] + (server,)
        life["due"] = moment + route[WAIT]
        octets = inside_octets(policy, route, life["client"], name, life["request"])
        told[0].append(("call", name, len(life["servers"]), server, octets))

    def inside(self, versions, version, moment, name, k, reaction, desk):
        """Take a reaction of the inside to a call; return the lists of outputs and fates; this changes the desk."""
        life = self.under_way.get(name[0])
        if life is None or life["name"] != name or len(life["servers"]) != k:
            return ([], [(name, ("stray", k))])
        told, method = ([], []), life["request"][0]
        if is_answer(reaction, method, False):
            policy = versions[life["version"]][0]
            told[0].append(("tell", name[0], outside_octets(policy, method, reaction)))
            self._end(life, ("answered", reaction[0], k), moment, desk, told)
        else:
            self._fail(versions, life, "refused" if reaction == "refused" else "broken", moment, moment, desk, told)
        self._turns(versions, version, moment, name[0], desk, told)
        return told

    def _fail(self, versions, life, word, moment, back, desk, told):
        """Let the call of a life that is under way fail; what it has is given back at the moment back."""
        policy, method, many = versions[life["version"]][0], life["request"][0], len(life["servers"])
        self._give_back_first(life, back, desk)
        server = None
        if many < life["route"][TRIES] and (word == "refused" or is_repeatable(method)):
            server = _further_server(policy, life)
        if server is not None:
            self._call(policy, life, server, moment, told)
            return
        last = "late" if word == "late" else "broken"
        told[0].append(("tell", life["name"][0], own_octets(policy, method, last)))
        self._end(life, (last, many), back, desk, told)

    def _give_back_first(self, life, back, desk):
        if life["given"] is not None:
            give_back_server(desk, life["given"], back)
            life["given"] = None

    def _end(self, life, fate, back, desk, told):
        """End a life; what it has is given back at the moment back."""
        self._give_back_first(life, back, desk)
        give_back_limits(desk, life["name"])
        del self.under_way[life["name"][0]]
        told[1].append((life["name"], fate))

    def gone(self, versions, version, moment, connection, desk):
        """Take the closing of a connection; return the lists of outputs and fates; this changes the desk."""
        told = ([], [])
        if connection in self.clients:
            self._close(connection, "gone", moment, desk, told)
        return told

    def _close(self, number, word, moment, desk, told):
        """End with a word what is under way at a known connection, and what waits there, and forget it."""
        if number in self.under_way:
            life = self.under_way[number]
            many = len(life["servers"])
            told[0].append(("hang up", life["name"], many))
            self._end(life, (word, many), moment, desk, told)
        told[1].extend([(row[0], (word, 0)) for row in self.waiting[number]])
        self._forget(number)

    def over(self, versions, version, moment, desk):
        """Let the calls whose dues are reached at a moment fail; return what is told; this changes the desk."""
        told, lives = ([], []), self.under_way
        dues = sorted([(lives[number]["due"], lives[number]["name"]) for number in lives])
        for due, name in dues:
            if due <= moment:
                life = self.under_way[name[0]]
                told[0].append(("hang up", name, len(life["servers"])))
                self._fail(versions, life, "late", moment, due, desk, told)
                self._turns(versions, version, moment, name[0], desk, told)
        return told

    def cut(self, cut, moment, desk):
        """End all requests of versions below the cut; return the lists of outputs and fates; this changes the desk."""
        told, lives = ([], []), self.under_way
        names = sorted([lives[number]["name"] for number in lives if lives[number]["version"] < cut])
        for name in names:
            self._close(name[0], "cut", moment, desk, told)
            told[0].append(("close", name[0]))
        return told
