"""Point 1: errors."""

import unittest

from onepolicy import errors
from onepolicy.door import Door
from onepolicy.edge import Edge
from onepolicy.links import Bag, Sender
from onepolicy.packet_reading import read_packet
from onepolicy.packet_writing import write_packet
from onepolicy.paths import normal, print_target
from onepolicy.policytext import print_policy, read_policy
from onepolicy.reading import Reader
from onepolicy.realize import realize
from onepolicy.writing import write_answer, write_request
from edge_samples import ground, policy
from samples import packet, udp


FIELDS = {
    "Misstep": ["word"], "Wrong": ["word", "place"], "Unread": ["word"], "Beyond": ["field"],
    "Unfit": [], "BadText": ["line", "place"],
}


class Errors(unittest.TestCase):
    def test_refused_is_a_value_error(self):
        self.assertEqual(errors.Refused.__bases__, (ValueError,))

    def test_others_are_direct_subclasses(self):
        for name in FIELDS:
            with self.subTest(name):
                self.assertEqual(getattr(errors, name).__bases__, (errors.Refused,))

    def test_fields_are_set_from_the_arguments_in_order(self):
        for name, fields in FIELDS.items():
            with self.subTest(name):
                given = ["first", 2][:len(fields)]
                error = getattr(errors, name)(*given)
                self.assertEqual(vars(error), dict(zip(fields, given)))

    def test_fields_are_the_names_of_the_arguments(self):
        self.assertEqual(errors.Wrong(place=3, word="route").place, 3)
        self.assertEqual(errors.BadText(line=1, place=2).line, 1)

    def test_they_are_caught_as_refused(self):
        for name, fields in FIELDS.items():
            with self.subTest(name), self.assertRaises(errors.Refused):
                raise getattr(errors, name)(*["word", None][:len(fields)])

    def test_a_wrong_number_of_arguments(self):
        for name in ("Misstep", "Wrong", "Unread", "Beyond", "BadText"):
            with self.subTest(name), self.assertRaises(TypeError):
                getattr(errors, name)()

    def test_all_that_is_raised(self):
        """Each call that raises on purpose, with the class and the fields of what it raises."""
        edge = Edge(ground(), policy())
        for kind, fields, function, given in (
            ("Unread", ["short"], read_packet, [[]]),
            ("Beyond", ["hops"], write_packet, [packet(udp(), hops=0)]),
            ("Unfit", [], write_request, [None]),
            ("Unfit", [], write_answer, [None, "GET"]),
            ("Unfit", [], Reader, ["PATCH"]),
            ("Unfit", [], Reader().feed, [None]),
            ("Unfit", [], normal, [None]),
            ("Unfit", [], print_target, [None]),
            ("Unfit", [], read_policy, [None]),
            ("Unfit", [], print_policy, [None]),
            ("BadText", [2, 1], read_policy, [""]),
            ("Misstep", ["form"], Door(ground()).events, [0, None]),
            ("Misstep", ["message"], Bag().at, [0]),
            ("Misstep", ["message"], Bag().take, [0]),
            ("Misstep", ["nothing"], Sender(1).again, []),
            ("Misstep", ["form"], edge.step, [None]),
            ("Misstep", ["version"], edge.version, [2]),
            ("Misstep", ["form"], realize, [edge, [None]]),
            ("Wrong", ["room", None], edge.step, [("bring", policy(room=0))]),
            ("Wrong", ["form", None], Edge, [ground(), None]),
        ):
            with self.subTest((kind, function)):
                with self.assertRaises(errors.Refused) as caught:
                    function(*given)
                self.assertIs(type(caught.exception), getattr(errors, kind))
                self.assertEqual(vars(caught.exception), dict(zip(FIELDS[kind], fields)))


if __name__ == "__main__":
    unittest.main()
