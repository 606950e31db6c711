"""Point 171: plans."""

import unittest

from flow_samples import HOST, TIMES, ground, pool
from onepolicy.plans import planned
from samples import OWN, PC, ROUTER, SERVER, calm, echo, packet, tcp, udp

ASKS = (udp(), tcp(2), echo())
END = (HOST, 8080)


class Plans(unittest.TestCase):
    def ask(self, fate, source, target, body, due, chosen=None):
        given = packet(body, source, target)
        found = calm(self, planned, ground(), fate, TIMES, given, chosen)
        self.assertEqual(found, due, (fate, given, chosen))
        self.assertIs(type(found), tuple)

    def test_pass(self):
        for body in ASKS:
            for source, target in ((PC, SERVER), (PC, HOST), (SERVER, PC), (SERVER, ROUTER), (OWN, SERVER)):
                for chosen in (None, END):
                    self.ask(("pass",), source, target, body, (None, None, TIMES), chosen)
            for source in (PC, SERVER, OWN):
                self.ask(("pass",), source, OWN + 1, body, ("drop", "own"))

    def test_source(self):
        fate = ("source", pool())
        for body in ASKS:
            for target in (SERVER, HOST, PC):
                self.ask(fate, PC, target, body, (None, pool(), TIMES))
                self.ask(fate, PC, target, body, (None, pool(), TIMES), END)
                for source in (SERVER, OWN, 0x09FFFFFF, 0x0B000000):
                    self.ask(fate, source, target, body, ("drop", "source"))
            # "own" is told first.
            for source in (PC, SERVER):
                self.ask(fate, source, OWN, body, ("drop", "own"))

    def test_forward_from_outside(self):
        for of in (None, pool()):
            fate = ("forward", "web", of)
            for body in (udp(), tcp(2)):
                self.ask(fate, SERVER, OWN, body, (END, None, TIMES), END)
                self.ask(fate, SERVER, OWN, body, ("drop", "none"))
            # For an ask the port is 0, whatever was chosen.
            self.ask(fate, SERVER, OWN, echo(), ((HOST, 0), None, TIMES), END)
            self.ask(fate, SERVER, OWN, echo(ident=65535), ((HOST, 0), None, TIMES), END)
            self.ask(fate, SERVER, OWN, echo(), ("drop", "none"))

    def test_forward_from_inside(self):
        for body in ASKS:
            end = (HOST, 0) if body[0] == "echo" else END
            self.ask(("forward", "web", pool()), PC, OWN, body, (end, pool(), TIMES), END)
            self.ask(("forward", "web", pool()), PC, OWN, body, ("drop", "none"))
            for chosen in (None, END):
                self.ask(("forward", "web", None), PC, OWN, body, ("drop", "hairpin"), chosen)

    def test_forward_of_other_targets(self):
        for body in ASKS:
            for of in (None, pool()):
                for source in (PC, SERVER):
                    for target in (SERVER + 1, HOST, OWN - 1, OWN + 3):
                        for chosen in (None, END):
                            self.ask(("forward", "web", of), source, target, body, ("drop", "target"), chosen)

    def test_ports_of_targets(self):
        fate = ("forward", "web", None)
        for port, due in ((1, None), (32767, None), (32768, "target"), (32769, "target"), (65535, "target")):
            for body in (udp(40000, port), tcp(2, source_port=40000, target_port=port)):
                self.ask(fate, SERVER, OWN, body, ("drop", due) if due else (END, None, TIMES), END)
                # "target" is told ahead of "hairpin" and "none".
                self.ask(fate, PC, OWN, body, ("drop", due or "hairpin"))
        # The target's end of an ask has the port 0.
        self.ask(fate, SERVER, OWN, echo(ident=40000), ((HOST, 0), None, TIMES), END)

    def test_the_name_of_the_service_is_not_looked_at(self):
        for name in ("web", "nobody", ""):
            self.ask(("forward", name, None), SERVER, OWN, udp(), (END, None, TIMES), END)


if __name__ == "__main__":
    unittest.main()
