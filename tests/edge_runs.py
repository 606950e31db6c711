"""Random runs of an edge: messages lost, doubled, delayed and in any order, workers begun anew, versions brought."""

from onepolicy.edge import Edge
from onepolicy.errors import Misstep
from onepolicy.realize import settle
from edge_samples import (
    CLIENT, DNS, LIMITS, OTHER, answer, ask_packet, ground, octets_of, policy, route, server, syn, text,
)
from samples import PC, echo, packet, tcp, udp

CLIENTS = (CLIENT, OTHER, CLIENT + 7, CLIENT + 99)


def random_policy(draw):
    servers = tuple(server(name, PC + at, 8080, draw.randint(0, 3), draw.choice(["up", "up", "down", "draining"]))
                    for at, name in enumerate("abc"))
    limits = (LIMITS[0], draw.choice([LIMITS[1], ("slow", "bucket", (1, 5, 3), ("outside",))]), LIMITS[2])
    return policy(
        services=(("web", servers, draw.choice(["turns", "least", "marks"]), draw.choice([None, 0, 5, 20])), DNS), limits=limits,
        room=draw.choice([1, 2, 5, 64]), keep=draw.choice(["stay", "stay", "cut"]),
        routes=(route(limits=draw.choice([(), ("few",), ("slow",), ("wide", "few")]), wait=draw.choice([1, 3, 10]),
                      tries=draw.randint(1, 3)),))


class Arrivals:
    """What may arrive, one after the other: packets, pieces of texts, reactions and ticks."""

    def __init__(self, draw):
        self.draw = draw
        self.last = 0
        self.texts = {}

    def packet(self):
        draw = self.draw
        source, port = draw.choice(CLIENTS), draw.randint(4000, 4010)
        given = draw.choice([
            ask_packet(source, port), syn(source, port), syn(source, port, to_port=25), syn(source, port, hops=1),
            packet(udp(port, 99), PC, source), packet(echo("ask"), PC, source), packet(echo("answer"), source, PC),
            packet(tcp(16, source_port=port), source, PC),
        ])
        octets = octets_of(given)[:draw.choice([None] * 9 + [-1])]
        return ("packet", "in" if given[1] == PC else "out", draw.choice([list, tuple])(octets))

    def piece(self):
        draw = self.draw
        if not self.texts or draw.randrange(4) == 0:
            self.last += draw.randint(1, 3)
            self.texts[self.last] = (draw.choice(CLIENTS), [])
        connection = draw.choice(list(self.texts))
        client, row = self.texts[connection]
        if draw.randrange(12) == 0:
            del self.texts[connection]
            return ("piece", connection, client, [])
        if not row:
            row += draw.choice([
                text(draw.choice(["GET", "PUT", "POST"]) + " /x E/1"), text("PUT /~2e~2e E/1"), text("POST / E/1", pieces=((1, 2),)),
                text("GET / E/1") * 2 + text("POST /b E/1"), list(b"BAD"),
            ])
        many = draw.choice([len(row), draw.randint(1, len(row))])
        part = row[:many]
        del row[:many]
        return ("piece", connection, client, part)

    def reaction(self, calls):
        """Return a reaction, mostly to one of the calls that went out."""
        draw = self.draw
        if calls and draw.randrange(4):
            name, k = draw.choice(calls)
        else:
            name, k = (draw.randint(1, self.last + 1), draw.randint(0, 2)), draw.randint(1, 3)
        return ("inside", name, k, draw.choice(["refused", "broken", ("answer", answer()), ("answer", answer(404)), ("answer", (200,))]))

    def any(self, calls):
        kind = self.draw.randrange(10)
        if kind < 3:
            return self.packet()
        if kind < 6:
            return self.piece()
        return self.reaction(calls) if kind < 9 else ("tick",)


def calls_of(log):
    """Return the pairs of names and numbers of the last calls in a log."""
    rows = [row for row in log[-60:] if row[0] == "did"]
    return [(output[1], output[2]) for row in rows for output in row[2] if output[0] == "call"]


def random_step(draw, edge, arrivals, moment):
    kind, workers = draw.randrange(24), len(edge.lives())
    if kind < 8:
        return ("arrive", moment, arrivals.any(calls_of(edge.log())))
    if kind == 8:
        return ("bring", random_policy(draw))
    if kind == 9 and draw.randrange(8) == 0:
        return ("anew", draw.randrange(workers))
    links = [link for link, rows in edge.links().items() if rows]
    if links and draw.randrange(12):
        link = draw.choice(links)
        word = draw.choice(["deliver"] * 8 + ["lose", "double"])
        return (word,) + link + (draw.randrange(len(edge.links()[link])),)
    return ("again",) + draw.choice(list(edge.links()))


def random_run(draw, many, after=None):
    """Return an edge behind so many random steps, and at rest; after each step that was made, after is called."""
    edge, arrivals, moment = Edge(ground(draw.randint(1, 4)), random_policy(draw)), Arrivals(draw), 0
    for _ in range(many):
        moment += draw.choice([0, 0, 0, 0, 1, 2, 9])
        try:
            edge.step(random_step(draw, edge, arrivals, moment))
        except Misstep as error:
            assert error.word in ("nothing", "order", "connection"), error.word
        if after:
            after(edge)
    for step in settle(edge):
        edge.step(step)
        if after:
            after(edge)
    return edge


def versions_of(edge):
    """Return the versions that a judge of an edge's log needs."""
    return {number: edge.version(number) for number in [1] + [row[1] for row in edge.log() if row[0] == "stamp"]}
