"""Points 560 to 569: what goes inside and outside, and the lives of requests at a worker."""

import copy
import random
import unittest

from onepolicy.balance import empty_state
from onepolicy.reading import Reader
from onepolicy.sending import Lives, inside_octets, outside_octets, own_octets
from edge_samples import CLIENT, ERRORS, LIMITS, OTHER, WEB, answer, policy, request, route, server
from samples import calm

NAME = (7, 0)
SHOWN = "9.9.9.9"


def told(row, method=None):
    """Return the one value that a wide reader tells of a row of octets."""
    (word, value, place), = Reader(method, True).feed(row)
    assert (word, place) == ("value", len(row) - 1)
    return value


class Inside(unittest.TestCase):
    def check(self, given, due, of=None, name=NAME, client=CLIENT, **parts):
        of = of or route()
        found = calm(self, inside_octets, policy(routes=(of,), **parts), of, client, name, given)
        self.assertIs(type(found), list)
        self.assertEqual(told(found), due)
        return found

    def test_as_it_is_written(self):
        given = request("PUT", "/a/./b~2d/../?x", (("b", "1"), ("host", "a.example")), (1, 2, 255))
        found = self.check(given, request("PUT", "/a/?x", (("b", "1"), ("host", "a.example"), ("request", "7.0")), (1, 2, 255)))
        self.assertEqual(found, list(b"PUT /a/?x E/1\r\nb: 1\r\nhost: a.example\r\nrequest: 7.0\r\nlength: 3\r\n\r\n\x01\x02\xff"))
        found = self.check(request("HEAD"), request("HEAD", "/", (("host", "a.example"), ("request", "12.34"))), name=(12, 34))
        self.assertEqual(found, list(b"HEAD / E/1\r\nhost: a.example\r\nrequest: 12.34\r\n\r\n"))

    def test_targets(self):
        for of, target, due in (
            (route(), "/a/b", "/a/b"), (route(), "/", "/"), (route(), "/a//./b/", "/a/b/"), (route(), "/~41~7E", "/A~7E"),
            (route(put=("p", "q")), "/a?x", "/p/q/a?x"), (route(put=("p",)), "/", "/p/"), (route(put=("p",)), "/?", "/p/?"),
            (route(prefix=("a", "b"), take=1), "/a/b/c", "/b/c"), (route(prefix=("a", "b"), take=2), "/a/b", "/"),
            (route(prefix=("a", "b"), take=2), "/a/b?q", "/?q"), (route(prefix=("a", "b"), take=2), "/a/b/", "/"),
            (route(prefix=("a",), take=1, put=("z",)), "/a", "/z"), (route(prefix=("a",), take=1, put=("z",)), "/a/", "/z/"),
            (route(prefix=("a b",)), "/a~20b/..a", "/a~20b/..a"),
        ):
            self.check(request(target=target), request(target=due, headers=(("host", "a.example"), ("request", "7.0"))), of)

    def test_headers(self):
        rows = (("hide", "request", "h"), ("set", "request", "s", "new"), ("from", "f"), ("hide", "answer", "k"))
        given = request(headers=(("h", "1"), ("k", "2"), ("s", "old"), ("connection", "x"), ("x", "3"), ("f", "me"),
                                 ("host", "a.example"), ("request", "9.9")))
        for trusted, value in (((), SHOWN), (((CLIENT, CLIENT),), "me, " + SHOWN), (((0, CLIENT - 1),), SHOWN)):
            self.check(given, request(headers=(
                ("k", "2"), ("host", "a.example"), ("s", "new"), ("f", value), ("request", "7.0"))), headers=rows, trusted=trusted)

    def test_great_ones(self):
        headers = (("host", "h"),) + (("f", "v" * 200),) + (("a", "b" * 200),) * 28
        rows = tuple(("set", "request", "s" + str(at), "v" * 200) for at in range(10)) + tuple(
            ("from", name) for name in ("f", "g", "i", "j"))
        value = "v" * 200 + ", 223.255.255.254"
        client = 0xDFFFFFFE
        given = request("POST", "/" + "!" * 379, headers, (1,) * 20000)
        self.check(given, request("POST", "/" + "/".join(["p" * 20] * 4 + ["~21" * 379]), (headers[0],) + headers[2:] + tuple(
            row[2:] for row in rows[:10]) + (("f", value),) + tuple((name, "223.255.255.254") for name in "gij") + (
            ("request", "999999999.5"),), (1,) * 20000), route(put=("p" * 20,) * 4), headers=rows, trusted=((client, client),),
            client=client, name=(999999999, 5))


class Outside(unittest.TestCase):
    def test_answers(self):
        rows = (("hide", "answer", "h"), ("set", "answer", "s", "new"), ("hide", "request", "k"))
        given = (("h", "1"), ("k", "2"), ("connection", "x, close"), ("x", "3"), ("request", "r"), ("s", "old"))
        for method, status, body in (("GET", 200, (1, 2)), ("POST", 599, ()), ("HEAD", 404, None), ("PUT", 204, None),
                                     ("DELETE", 304, None)):
            found = calm(self, outside_octets, policy(headers=rows), method, (status, given, body))
            self.assertIs(type(found), list)
            self.assertEqual(told(found, method), (status, (("k", "2"), ("request", "r"), ("s", "new")), body))

    def test_own_answers(self):
        for word, status, line in ERRORS:
            for method in ("GET", "HEAD", "PUT", "POST", "DELETE"):
                found = calm(self, own_octets, policy(), method, word)
                body = None if method == "HEAD" else tuple(line.encode())
                self.assertEqual(told(found, method), (status, (("content", "text"),), body))
        self.assertEqual(own_octets(policy(), "GET", "limit"), list(b"E/1 429\r\ncontent: text\r\nlength: 0\r\n\r\n"))
        self.assertEqual(own_octets(policy(), "HEAD", "late"), list(b"E/1 504\r\ncontent: text\r\n\r\n"))
        # Rows for the answers of others are none for own ones.
        rows = (("set", "answer", "s", "v"), ("hide", "answer", "content"))
        self.assertEqual(own_octets(policy(headers=rows), "GET", "limit"), own_octets(policy(), "GET", "limit"))


class Case(unittest.TestCase):
    def setUp(self):
        self.lives = Lives()
        self.desk = {"states": {}, "balance": empty_state(), "holds": [], "other": ["untouched"]}
        self.versions = {1: (policy(), 0)}
        self.version = 1

    def deed(self, word, *given):
        """Do a deed of the lives; nothing that is handed in changes but the desk, whose values are new ones."""
        before = {key: copy.deepcopy(self.desk[key]) for key in self.desk}
        olds = dict(self.desk)
        handed = (self.versions,) + given
        copies = copy.deepcopy(handed)
        twin, desk = self.lives.twin(), dict(self.desk)
        ahead = () if word == "cut" else (self.versions, self.version)
        found = getattr(self.lives, word)(*ahead, *given, self.desk)
        self.assertEqual(handed, copies)
        self.assertEqual(olds, before)
        self.assertEqual(sorted(self.desk), ["balance", "holds", "other", "states"])
        self.assertIs(self.desk["other"], olds["other"])
        self.assertEqual([type(found), type(found[0]), type(found[1]), len(found)], [tuple, list, list, 2])
        for output in found[0]:
            if output[0] in ("call", "tell"):
                self.assertIs(type(output[-1]), list)
        # A twin that was made ahead of it does the same, by itself.
        self.assertEqual(getattr(twin, word)(*ahead, *given, desk), found)
        self.assertEqual(desk, self.desk)
        return found

    def ask(self, moment=0, name=NAME, given=None, client=CLIENT):
        return self.deed("request", moment, name, client, given or request())

    def react(self, moment, reaction, k=1, name=NAME):
        return self.deed("inside", moment, name, k, reaction)

    def call(self, name=NAME, k=1, where="a", given=None, version=None, client=CLIENT):
        value = self.versions[version or self.version][0]
        return ("call", name, k, where, inside_octets(value, value["routes"][0], client, name, given or request()))

    def own(self, word, connection=7, method="GET", version=None):
        return ("tell", connection, own_octets(self.versions[version or self.version][0], method, word))

    def counts(self):
        """Return how many things are open by servers, and who holds which limits."""
        return self.desk["balance"]["open"], [(row[0], row[1][0]) for row in self.desk["holds"]]

    def use(self, number=1, cut=0, **parts):
        self.versions[number] = (policy(**parts), cut)
        self.version = number


class Beginnings(Case):
    def test_a_call_goes_out(self):
        self.use(routes=(route(limits=("few", "slow")),))
        self.assertEqual(self.ask(), ([self.call()], []))
        self.assertEqual(self.counts(), ({("web", "a"): 1}, [(NAME, "few")]))
        self.assertEqual(self.desk["holds"], [(NAME, LIMITS[0], (CLIENT,))])
        self.assertEqual(self.desk["balance"]["clients"], {("web", CLIENT, "a"): 1})
        self.assertEqual(list(self.desk["states"]), ["slow"])
        # Turns go on from request to request.
        self.assertEqual(self.ask(name=(8, 0), client=OTHER), ([self.call((8, 0), where="b", client=OTHER)], []))

    def bar(self, word, given=None, method="GET"):
        """Look at a request that does not begin; nothing is taken."""
        before = copy.deepcopy(self.desk)
        self.assertEqual(self.ask(given=given), ([self.own(word, method=method)], [(NAME, (word, 0))]))
        self.assertEqual(self.desk, before)

    def test_refused(self):
        for target in ("/..", "/~zz", "/a\\b", "/~2f"):
            self.bar("refused", request(target=target))
            self.lives = Lives()

    def test_no_route(self):
        self.use(routes=(route("other"), route(prefix=("a",)), route(methods=("PUT",))))
        self.bar("no route")
        self.bar("no route", request("HEAD"), "HEAD")
        self.assertEqual(self.ask(name=(9, 0), given=request("PUT"))[1], [])
        self.assertEqual(self.ask(name=(10, 0), given=request(headers=(("host", "other"),)))[1], [])

    def test_none(self):
        down = ("web", (server("a", health="down"), server("b", weight=0)), "turns", None)
        self.use(services=(down,), rules=((), (("drop",), ())))
        self.bar("none")

    def test_limit(self):
        self.use(limits=(("no", "open", (0,), ()),) + LIMITS, routes=(route(limits=("slow", "no")),),
                 rules=((), (("drop",), ())))
        self.bar("limit")

    def test_each_bar_ahead_of_the_next_ones(self):
        rules = ((), (("drop",), ()))
        down = ("web", (server("a", health="down"),), "turns", None)
        no = (("no", "open", (0,), ()),)
        self.use(services=(down,), limits=no, routes=(route("other", limits=("no",)),), rules=rules)
        self.bar("refused", request(target="/.."))
        self.use(services=(down,), limits=no, routes=(route("other", limits=("no",)),), rules=rules)
        self.bar("no route")
        self.use(services=(down,), limits=no, routes=(route(limits=("no",)),), rules=rules)
        self.bar("none")
        self.use(limits=no, routes=(route(limits=("no",)),), rules=rules)
        self.bar("limit")

    def test_who_asks(self):
        for words, key in ((("outside",), (CLIENT,)), (("inside",), (None,)), (("kind", "service"), ("request", "web")),
                           (("outside 8",), (CLIENT >> 24,)), ((), ())):
            self.setUp()
            self.use(limits=(("one", "open", (1,), words),), routes=(route(limits=("one",)),), rules=((), (("drop",), ())))
            self.assertEqual(self.ask()[1], [])
            self.assertEqual(self.desk["holds"][0][2], key)
            self.assertEqual(self.ask(name=(8, 0))[1], [((8, 0), ("limit", 0))])

    def test_limits_are_asked_in_the_order_of_the_route_with_the_cost_1(self):
        self.use(limits=(("a", "bucket", (1, 10, 3), ()), ("b", "bucket", (1, 10, 5), ())), routes=(route(limits=("b", "a")),),
                 rules=((), (("drop",), ())))
        for at in range(3):
            self.assertEqual(self.ask(name=(at + 1, 0))[1], [])
        self.assertEqual(self.ask(name=(9, 0))[1], [((9, 0), ("limit", 0))])
        self.assertEqual({name: sum(costs for _, costs in keys.values()) for name, keys in self.desk["states"].items()},
                         {"a": 3, "b": 3})

    def test_the_server_of_a_service_by_its_choice(self):
        for choice, places in (("turns", "abc"), ("least", "abc"), ("marks", None)):
            self.setUp()
            self.use(services=(("web", WEB[1], choice, None),), rules=((), (("drop",), ())))
            servers = [self.ask(name=(at, 0))[0][0][3] for at in (1, 2, 3)]
            self.assertEqual(servers, list(places) if places else [servers[0]] * 3)

    def test_kept_clients(self):
        self.use(services=(("web", WEB[1], "turns", 50),), rules=((), (("drop",), ())))
        self.assertEqual([self.ask(name=(at, 0))[0][0][3] for at in (1, 2)], ["a", "a"])
        self.assertEqual(self.ask(name=(3, 0), client=OTHER)[0][0][3], "b")


class Turns(Case):
    def test_connections_that_are_not_known(self):
        for index in (1, 2, 99):
            self.assertEqual(self.ask(name=(7, index)), ([], [((7, index), ("unknown", 0))]))
            self.assertEqual(self.deed("fault", 0, (7, index), CLIENT, "name"), ([], [((7, index), ("unknown", 0))]))
        self.assertEqual(self.deed("gone", 0, 7), ([], []))
        self.assertEqual(self.ask()[1], [])

    def test_one_behind_the_other(self):
        self.assertEqual(self.ask(), ([self.call()], []))
        for index in (1, 2):
            self.assertEqual(self.ask(name=(7, index)), ([], []))
        self.assertEqual(self.react(5, answer()), (
            [("tell", 7, outside_octets(policy(), "GET", answer())), self.call((7, 1), where="b")], [(NAME, ("answered", 200, 1))]))
        self.assertEqual(self.react(6, answer(404), name=(7, 1))[1], [((7, 1), ("answered", 404, 1))])
        self.assertEqual(self.react(6, answer(), name=(7, 2))[1], [((7, 2), ("answered", 200, 1))])
        # Nothing is under way: the turn of the next one comes at once.
        self.assertEqual(self.ask(name=(7, 3))[0][0][:4], ("call", (7, 3), 1, "a"))

    def test_turns_go_on_until_a_call_is_under_way(self):
        self.ask()
        bad = request(target="/..")
        for index, given in ((1, bad), (2, bad), (3, request()), (4, bad)):
            self.ask(name=(7, index), given=given)
        outputs, fates = self.react(3, answer())
        self.assertEqual([output[0] for output in outputs], ["tell", "tell", "tell", "call"])
        self.assertEqual(fates, [(NAME, ("answered", 200, 1)), ((7, 1), ("refused", 0)), ((7, 2), ("refused", 0))])
        outputs, fates = self.react(4, answer(), name=(7, 3))
        self.assertEqual(fates, [((7, 3), ("answered", 200, 1)), ((7, 4), ("refused", 0))])

    def test_a_turn_is_of_the_version_and_the_moment_of_its_event(self):
        self.use(routes=(route(wait=10),))
        self.ask(0)
        self.ask(0, name=(7, 1))
        errors = tuple((word, 599, "new") for word, _, _ in ERRORS)
        self.use(2, routes=(route(wait=20, put=("v2",)),), errors=errors)
        outputs, _ = self.react(8, answer())
        self.assertEqual(outputs[1], self.call((7, 1), where="b"))
        self.assertIn(b"/v2", bytes(outputs[1][4]))
        self.assertEqual(self.deed("over", 27), ([], []))
        self.assertEqual(self.deed("over", 28)[0][0], ("hang up", (7, 1), 1))

    def test_other_connections_do_not_wait(self):
        self.ask()
        self.assertEqual(self.ask(name=(8, 0))[0][0][1], (8, 0))


class Answers(Case):
    def test_answers(self):
        for method, body in (("GET", (1, 2)), ("HEAD", None), ("PUT", ()), ("POST", (9,) * 20000), ("DELETE", (0,))):
            self.setUp()
            self.use(headers=(("set", "answer", "s", "v"),), routes=(route(limits=("few",)),))
            self.ask(given=request(method))
            value = answer(201, (("a", "b"), ("connection", "c"), ("c", "d")), body)
            outputs, fates = self.react(4, value)
            self.assertEqual(outputs, [("tell", 7, outside_octets(self.versions[1][0], method, value))])
            self.assertEqual(told(outputs[0][2], method), (201, (("a", "b"), ("s", "v")), body))
            self.assertEqual(fates, [(NAME, ("answered", 201, 1))])
            self.assertEqual(self.counts(), ({}, []))
            # It has ended: what comes now is from nothing that is under way.
            self.assertEqual(self.react(5, value), ([], [(NAME, ("stray", 1))]))

    def test_by_the_policy_of_its_version(self):
        self.use(headers=(("set", "answer", "s", "one"),))
        self.ask()
        self.use(2, headers=(("set", "answer", "s", "two"),))
        self.assertEqual(told(self.react(4, answer())[0][0][2], "GET")[1], (("s", "one"),))

    def test_what_is_no_answer_is_broken(self):
        self.use(routes=(route(tries=1),))
        wrong = [answer(199), answer(600), answer(body=None), answer(204), (204, (), ()), answer(headers=(("host", "a"),)),
                 answer(headers=(("a", "b" * 201),)), answer(headers=(("a", "b"),) * 31), answer(body=(1,) * 20001), (), (200, ()),
                 (200, (), (), ()), answer(body=(256,)), answer(body=[1]), None, True, 5, "answer", "late", ("refused",), "broken",
                 ["refused"], (((),),)]
        for at, value in enumerate(wrong):
            name = (at + 1, 0)
            self.ask(name=name)
            self.assertEqual(self.react(1, value, name=name), ([self.own("broken", at + 1)], [(name, ("broken", 1))]))
        self.assertEqual(self.counts(), ({}, []))
        self.ask(name=(99, 0), given=request("HEAD"))
        self.assertEqual(self.react(1, answer(body=()), name=(99, 0))[1], [((99, 0), ("broken", 1))])

    def test_strays(self):
        for name, k in (((7, 0), 1), ((9, 3), 2)):
            self.assertEqual(self.react(0, answer(), k, name), ([], [(name, ("stray", k))]))
        self.ask()
        self.ask(name=(7, 1))
        for name, k in (((7, 0), 2), ((7, 0), 9), ((7, 1), 1), ((7, 2), 1), ((8, 0), 1)):
            for reaction in (answer(), "refused", "broken"):
                before = copy.deepcopy(self.desk)
                self.assertEqual(self.react(1, reaction, k, name), ([], [(name, ("stray", k))]))
                self.assertEqual(self.desk, before)
        self.react(1, "refused")
        self.assertEqual(self.react(2, answer()), ([], [(NAME, ("stray", 1))]))
        self.assertEqual(self.react(2, answer(), 2)[1][0], (NAME, ("answered", 200, 2)))


class Failures(Case):
    def test_further_calls(self):
        self.use(routes=(route(tries=3, wait=10),))
        self.ask()
        self.assertEqual(self.react(2, "refused"), ([self.call(k=2, where="b")], []))
        self.assertEqual(self.react(3, "broken", 2), ([self.call(k=3, where="c")], []))
        self.assertEqual(self.react(4, "refused", 3), ([self.own("broken")], [(NAME, ("broken", 3))]))
        self.assertEqual(self.counts(), ({}, []))

    def test_the_number_of_tries(self):
        for tries in (1, 2, 3):
            self.setUp()
            self.use(routes=(route(tries=tries),))
            self.ask()
            for k in range(1, tries):
                self.assertEqual(self.react(1, "refused", k)[1], [])
            self.assertEqual(self.react(1, "refused", tries), ([self.own("broken")], [(NAME, ("broken", tries))]))

    def test_methods_that_are_not_repeatable(self):
        for method in ("GET", "HEAD", "PUT", "DELETE", "POST"):
            for reaction, goes_on in (("refused", True), ("broken", method != "POST"), (answer(700), method != "POST")):
                self.setUp()
                self.ask(given=request(method))
                outputs, fates = self.react(1, reaction)
                if goes_on:
                    self.assertEqual((outputs, fates), ([self.call(k=2, where="b", given=request(method))], []))
                else:
                    self.assertEqual((outputs, fates), ([self.own("broken", method=method)], [(NAME, ("broken", 1))]))
            self.setUp()
            self.ask(given=request(method))
            outputs, fates = self.deed("over", 10)
            self.assertEqual(outputs[0], ("hang up", NAME, 1))
            if method == "POST":
                self.assertEqual((outputs[1:], fates), ([self.own("late")], [(NAME, ("late", 1))]))
            else:
                self.assertEqual((outputs[1:], fates), ([self.call(k=2, where="b", given=request(method))], []))

    def test_only_servers_that_can_be_chosen_and_were_not_called(self):
        servers = (server("a"), server("b", health="down"), server("c", weight=0), server("d", health="draining"), server("e"))
        self.use(services=(("web", servers, "turns", None),), rules=((), (("drop",), ())), routes=(route(tries=3),))
        self.ask()
        self.assertEqual(self.react(1, "refused"), ([self.call(k=2, where="e")], []))
        self.assertEqual(self.react(2, "refused", 2), ([self.own("broken")], [(NAME, ("broken", 2))]))
        # The first one in the service's order gets it, whichever was called.
        self.assertEqual(self.ask(name=(8, 0))[0][0][3], "e")
        self.assertEqual(self.react(2, "refused", 1, (8, 0))[0], [self.call((8, 0), 2, "a")])

    def test_servers_of_the_version_of_the_request(self):
        self.use(services=(("web", (server("a"), server("b")), "turns", None),), rules=((), (("drop",), ())))
        self.ask()
        self.use(2, services=(("web", (server("z"),), "turns", None),), rules=((), (("drop",), ())))
        self.assertEqual(self.react(1, "refused"), ([self.call(k=2, where="b", version=1)], []))

    def test_own_answers_by_the_policy_of_the_version_of_the_request(self):
        self.use(routes=(route(tries=1),))
        self.ask()
        self.use(2, errors=tuple((word, 599, "new") for word, _, _ in ERRORS))
        self.assertEqual(self.react(1, "refused")[0], [self.own("broken", version=1)])

    def test_dues(self):
        self.use(routes=(route(wait=10, tries=3),))
        self.ask(5)
        self.assertEqual(self.deed("over", 14), ([], []))
        self.assertEqual(self.deed("over", 15), ([("hang up", NAME, 1), self.call(k=2, where="b")], []))
        # The due of a further call is reckoned from the moment of the event.
        self.assertEqual(self.deed("over", 24), ([], []))
        self.assertEqual(self.deed("over", 90), ([("hang up", NAME, 2), self.call(k=3, where="c")], []))
        self.assertEqual(self.deed("over", 99), ([], []))
        self.assertEqual(self.deed("over", 100), ([("hang up", NAME, 3), self.own("late")], [(NAME, ("late", 3))]))

    def test_late_tells_late_only_if_the_last_failure_was(self):
        self.use(routes=(route(wait=10, tries=2),))
        self.ask()
        self.deed("over", 10)
        self.assertEqual(self.react(11, "broken", 2), ([self.own("broken")], [(NAME, ("broken", 2))]))
        self.ask(20, name=(8, 0))
        self.react(21, "broken", name=(8, 0))
        self.assertEqual(self.deed("over", 31)[1], [((8, 0), ("late", 2))])

    def test_dues_in_their_order(self):
        self.use(routes=(route(wait=10, tries=1),))
        for moment, name in ((3, (9, 0)), (1, (8, 0)), (3, (7, 0)), (2, (10, 0))):
            self.ask(moment, name)
        outputs, fates = self.deed("over", 50)
        names = [(8, 0), (10, 0), (7, 0), (9, 0)]
        self.assertEqual(fates, [(name, ("late", 1)) for name in names])
        self.assertEqual(outputs, [part for name in names for part in (("hang up", name, 1), self.own("late", name[0]))])

    def test_turns_that_come_by_a_due_are_of_the_event(self):
        self.use(routes=(route(wait=10, tries=1),))
        self.ask(0)
        self.ask(0, name=(7, 1))
        self.use(2, routes=(route(wait=5, tries=1, put=("two",)),))
        outputs, fates = self.deed("over", 40)
        self.assertEqual(outputs, [("hang up", NAME, 1), self.own("late"), self.call((7, 1), where="b")])
        self.assertEqual(self.deed("over", 44), ([], []))
        self.assertEqual(self.deed("over", 45)[1], [((7, 1), ("late", 1))])

    def test_the_first_server_is_given_back_when_the_first_call_fails(self):
        for word in ("refused", "broken", "late"):
            self.setUp()
            self.use(routes=(route(limits=("few",)),))
            self.ask()
            self.assertEqual(self.counts(), ({("web", "a"): 1}, [(NAME, "few")]))
            if word == "late":
                self.deed("over", 10)
            else:
                self.react(1, word)
            # What a further call gets counts for nothing; limits are held until the end.
            self.assertEqual(self.counts(), ({}, [(NAME, "few")]))
            self.assertEqual(self.desk["balance"]["clients"], {})
            self.react(12, answer(), 2)
            self.assertEqual(self.counts(), ({}, []))

    def test_the_first_server_is_given_back_once(self):
        one = ("web", (server("a"), server("b")), "marks", 50)
        for last in ("answer", "refused", "late", "gone", "cut"):
            self.setUp()
            self.use(services=(one,), rules=((), (("drop",), ())), routes=(route(wait=10),))
            where = self.ask(0)[0][0][3]
            self.ask(0, name=(8, 0))
            self.assertEqual(self.counts()[0], {("web", where): 2})
            self.react(3, "refused")
            self.assertEqual(self.counts()[0], {("web", where): 1})
            if last == "late":
                self.react(12, "refused", 1, (8, 0))
                self.deed("over", 13)
            elif last in ("gone", "cut"):
                self.deed(last, *((4, 7) if last == "gone" else (2, 4)))
            else:
                self.react(4, answer() if last == "answer" else last, 2)
            due = {"late": {}, "cut": {}}.get(last, {("web", where): 1})
            self.assertEqual(self.counts()[0], due)
            # The end of the request is no further end of what the first server had of it.
            kept = {"late": 12, "cut": 4}.get(last, 3)
            self.assertEqual(self.desk["balance"]["kept"], {("web", CLIENT): (where, kept)})

    def test_servers_are_given_back_at_their_own_moment(self):
        services = (("web", WEB[1], "turns", 20),)
        for word, moment, due in (("late", 30, 10), ("answer", 30, 30), ("gone", 30, 30), ("cut", 30, 30), ("refused", 30, 30)):
            self.setUp()
            self.use(services=services, rules=((), (("drop",), ())), routes=(route(wait=10, tries=1),))
            self.ask(0)
            if word == "late":
                self.deed("over", moment)
            elif word == "gone":
                self.deed("gone", moment, 7)
            elif word == "cut":
                self.deed("cut", 2, moment)
            else:
                self.react(moment, answer() if word == "answer" else word)
            self.assertEqual(self.desk["balance"]["kept"], {("web", CLIENT): ("a", due)})


class Faults(Case):
    def test_at_once(self):
        self.use(errors=tuple((word, 499, word) for word, _, _ in ERRORS))
        found = self.deed("fault", 0, NAME, CLIENT, "target")
        self.assertEqual(found, ([self.own("refused"), ("close", 7)], [(NAME, ("fault", "target"))]))
        self.assertEqual(told(found[0][0][2], "GET")[::2], (499, tuple(b"refused")))
        self.assertEqual(self.ask(name=(7, 1))[1], [((7, 1), ("unknown", 0))])
        self.assertEqual(self.deed("gone", 1, 7), ([], []))

    def test_in_its_turn(self):
        self.ask()
        self.ask(name=(7, 1), given=request(target="/.."))
        self.assertEqual(self.deed("fault", 1, (7, 2), CLIENT, "name"), ([], []))
        self.use(2, errors=tuple((word, 499, word) for word, _, _ in ERRORS))
        outputs, fates = self.react(2, answer())
        self.assertEqual(outputs[1:], [self.own("refused"), self.own("refused"), ("close", 7)])
        self.assertEqual(fates[1:], [((7, 1), ("refused", 0)), ((7, 2), ("fault", "name"))])
        self.assertEqual(self.deed("gone", 3, 7), ([], []))

    def test_it_needs_no_route_and_no_limit(self):
        self.use(routes=(), limits=(), rules=((), (("drop",), ())))
        self.assertEqual(self.deed("fault", 0, NAME, CLIENT, "method")[1], [(NAME, ("fault", "method"))])


class Closings(Case):
    def test_gone(self):
        self.use(routes=(route(limits=("few",), tries=3),))
        self.ask()
        self.ask(name=(7, 1))
        self.ask(name=(7, 2))
        self.deed("fault", 0, (7, 3), CLIENT, "name")
        self.ask(name=(8, 0))
        self.react(1, "refused")
        self.assertEqual(self.deed("gone", 2, 7), (
            [("hang up", NAME, 2)], [(NAME, ("gone", 2))] + [((7, index), ("gone", 0)) for index in (1, 2, 3)]))
        self.assertEqual(self.counts(), ({("web", "b"): 1}, [((8, 0), "few")]))
        self.assertEqual(self.react(3, answer(), 2), ([], [(NAME, ("stray", 2))]))
        self.assertEqual(self.ask(name=(7, 4))[1], [((7, 4), ("unknown", 0))])
        self.assertEqual(self.deed("gone", 3, 7), ([], []))

    def test_with_nothing_under_way(self):
        self.ask()
        self.react(1, answer())
        self.assertEqual(self.deed("gone", 2, 7), ([], []))
        self.assertEqual(self.ask(name=(7, 1))[1], [((7, 1), ("unknown", 0))])

    def test_cuts(self):
        self.use(1, routes=(route(limits=("few",)),), limits=(("few", "open", (9,), ()),) + LIMITS[1:])
        for name in ((9, 0), (7, 0), (8, 0), (7, 1), (10, 0), (7, 2)):
            self.ask(name=name)
        self.react(1, answer(), name=(10, 0))
        self.react(1, "refused", name=(8, 0))
        self.versions[2] = self.versions[1]
        self.version = 2
        self.ask(2, (11, 0))
        self.assertEqual(self.deed("cut", 1, 3), ([], []))
        outputs, fates = self.deed("cut", 2, 3)
        self.assertEqual(outputs, [part for name, k in (((7, 0), 1), ((8, 0), 2), ((9, 0), 1))
                                   for part in (("hang up", name, k), ("close", name[0]))])
        self.assertEqual(fates, [((7, 0), ("cut", 1)), ((7, 1), ("cut", 0)), ((7, 2), ("cut", 0)), ((8, 0), ("cut", 2)),
                                 ((9, 0), ("cut", 1))])
        self.assertEqual(self.counts()[1], [((11, 0), "few")])
        # A connection with nothing under way is known as before.
        self.assertEqual(self.ask(4, (10, 1))[1], [])
        self.assertEqual(self.ask(4, (9, 1))[1], [((9, 1), ("unknown", 0))])

    def test_a_request_is_cut_by_the_version_in_which_it_lives(self):
        self.ask()
        self.ask(name=(7, 1))
        self.use(2, cut=2)
        self.react(1, answer())
        self.assertEqual(self.deed("cut", 2, 2), ([], []))
        self.assertEqual(self.deed("cut", 3, 2)[1], [((7, 1), ("cut", 1))])


class Holds(Case):
    def test_in_the_order_in_which_they_were_taken(self):
        self.use(limits=(("a", "open", (9,), ()), ("b", "open", (9,), ("outside",))), routes=(route(limits=("b", "a")),),
                 rules=((), (("drop",), ())))
        self.desk["holds"] = [(12, ("flow", "open", (1,), ()), ())]
        self.ask(name=(9, 0))
        self.ask(name=(7, 0), client=OTHER)
        a, b = self.versions[1][0]["limits"]
        self.assertEqual(self.desk["holds"], [(12, ("flow", "open", (1,), ()), ()), ((9, 0), b, (CLIENT,)), ((9, 0), a, ()),
                                              ((7, 0), b, (OTHER,)), ((7, 0), a, ())])
        self.react(1, answer(), name=(9, 0))
        self.assertEqual([row[0] for row in self.desk["holds"]], [12, (7, 0), (7, 0)])

    def test_others_hold_the_same(self):
        self.use(limits=(("a", "open", (2,), ("outside",)),), routes=(route(limits=("a",), tries=1),), rules=((), (("drop",), ())))
        self.desk["holds"] = [(12, self.versions[1][0]["limits"][0], (CLIENT,))]
        self.assertEqual(self.ask()[1], [])
        self.assertEqual(self.ask(name=(8, 0))[1], [((8, 0), ("limit", 0))])
        self.assertEqual(self.ask(name=(9, 0), client=OTHER)[1], [])
        # An end gives back ahead of the next turn of its connection.
        self.ask(name=(7, 1))
        self.assertEqual(self.react(1, "refused")[1], [(NAME, ("broken", 1))])
        self.assertEqual(self.ask(name=(8, 1))[1], [((8, 1), ("limit", 0))])

    def test_the_end_comes_ahead_of_the_next_turn(self):
        self.use(limits=(("a", "open", (1,), ()),), routes=(route(limits=("a",), tries=1, wait=5),), rules=((), (("drop",), ())))
        for index in range(3):
            self.ask(name=(7, index))
        self.assertEqual(self.react(1, answer())[1], [(NAME, ("answered", 200, 1))])
        self.assertEqual(self.deed("over", 9)[1], [((7, 1), ("late", 1))])
        self.assertEqual(self.deed("cut", 2, 9)[1], [((7, 2), ("cut", 1))])


class Facts(unittest.TestCase):
    def test_each_request_ends_once_in_the_order_of_its_connection(self):
        draw = random.Random(569)
        for _ in range(60):
            lives, desk = Lives(), {"states": {}, "balance": empty_state(), "holds": []}
            versions = {number: (policy(
                routes=(route(limits=draw.choice([(), ("few",), ("slow",)]), tries=draw.randint(1, 3), wait=draw.randint(1, 9)),),
                limits=(("few", "open", (2,), ("outside",)),) + LIMITS[1:],
                headers=draw.choice([(), (("from", "f"), ("set", "request", "s", "v"))])), 0) for number in (1, 2, 3)}
            moment, indexes, ends, calls, methods = 0, {}, {}, {}, {}
            for _ in range(120):
                moment += draw.choice([0, 0, 1, 4])
                version = 1 + min(moment // 60, 2)
                kind, connection = draw.randrange(6), draw.randint(1, 4)
                client = CLIENT + connection
                if kind < 3:
                    name = (connection, indexes.get(connection, 0))
                    indexes[connection] = name[1] + 1
                    methods[name] = draw.choice(["GET", "POST", "PUT"])
                    given = request(methods[name], "/a", (("host", "h" + str(connection)), ("request", "x"), ("f", "me")),
                                    None if methods[name] == "GET" else (1, 2))
                    found = lives.request(versions, version, moment, name, client, given, desk)
                elif kind < 5:
                    name, k = (connection, draw.randint(0, indexes.get(connection, 0))), draw.randint(1, 3)
                    reaction = draw.choice(["refused", "broken", answer()])
                    if calls.get(name, [(0,)])[-1][0] == k:
                        calls[name][-1] = (k, reaction)
                    found = lives.inside(versions, version, moment, name, k, reaction, desk)
                else:
                    found = lives.over(versions, version, moment, desk)
                for output in found[0]:
                    if output[0] == "call":
                        self.call(output, methods, calls)
                for name, end in found[1]:
                    if end[0] != "stray":
                        self.assertNotIn(name, ends)
                        self.assertEqual([other for other in ends if other[0] == name[0]],
                                         [(name[0], index) for index in range(name[1])])
                        ends[name] = end
            self.assertTrue(ends)

    def call(self, output, methods, calls):
        """Look at one call: it is one right text of its request, and goes out only if it may."""
        _, name, k, _, octets = output
        (word, value, place), = Reader(None, True).feed(octets)
        self.assertEqual((word, place), ("value", len(octets) - 1))
        method, _, headers, body = value
        self.assertEqual((method, body), (methods[name], None if methods[name] == "GET" else (1, 2)))
        self.assertIn(("host", "h" + str(name[0])), headers)
        self.assertEqual([told for other, told in headers if other == "request"], [f"{name[0]}.{name[1]}"])
        earlier = calls.setdefault(name, [])
        self.assertEqual(k, len(earlier) + 1)
        if method == "POST":
            self.assertEqual([row[1] for row in earlier], ["refused"] * len(earlier))
        earlier.append((k, None))


class Twins(Case):
    def test_they_go_on_alone(self):
        self.ask()
        self.ask(name=(7, 1))
        other, desk = self.lives.twin(), dict(self.desk)
        self.react(1, answer())
        self.deed("gone", 2, 7)
        found = other.inside(self.versions, 1, 1, NAME, 1, "refused", desk)
        self.assertEqual(found[0][0][:4], ("call", NAME, 2, "b"))
        self.assertEqual(other.gone(self.versions, 1, 2, 7, desk)[1], [(NAME, ("gone", 2)), ((7, 1), ("gone", 0))])
        self.assertEqual(self.ask(name=(7, 2))[1], [((7, 2), ("unknown", 0))])

    def test_what_is_told_is_not_shared(self):
        outputs, fates = self.ask()
        outputs[0][4].clear()
        outputs.clear()
        fates.append(1)
        self.use(1, routes=(route(put=("later",)),))
        self.assertEqual(self.react(1, "refused")[0][0][4], inside_octets(
            policy(), route(), CLIENT, NAME, request()))


if __name__ == "__main__":
    unittest.main()
