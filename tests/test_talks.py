"""Points 125 to 133: talks."""

import itertools
import unittest

from onepolicy.talks import begun, segment_end, tracked
from samples import MOST, calm, tcp

FIN, SYN, RST, PUSH, ACK, URGENT = 1, 2, 4, 8, 16, 32
FORMS = (SYN, SYN + ACK, ACK, FIN + ACK, RST, RST + ACK)
HALF = 2 ** 31
FAR = 2 ** 30

# The starts of the opener and the answerer; in most of these numbers go around.
STARTS = ((1000, 5000), (MOST - 1, MOST - 2), (0, MOST - 1), (MOST - 30, HALF - 30), (HALF, MOST - 700), (5, 5))


def around(number):
    return number % MOST


def side(start, end, top, wide, heard, shift=0, fin=None):
    """Return a side whose numbers are told as steps behind its start."""
    numbers = [around(start + step) for step in (0, end, top)]
    fin = None if fin is None else around(start + fin)
    return tuple(numbers) + (wide, around(start + heard), shift, fin)


def asked(a, wide=300, shift=None):
    return ("asked", side(a, 1, 1, wide, 0, shift), None)


def answered(a, b, wide=300, other_wide=400, shift=0, other_shift=0):
    opener = side(a, 1, 1 + other_wide, wide, 1, shift)
    return ("answered", opener, side(b, 1, 1 + wide, other_wide, 0, other_shift))


def live(a, b, state="open", fin=None, other_fin=None, heard=61, other_heard=81, shift=0, other_shift=0):
    """Return a talk in which the opener has sent up to 101 and the answerer up to 201."""
    opener = side(a, 101, 461, 300, heard, shift, fin)
    return (state, opener, side(b, 201, 381, 400, other_heard, other_shift, other_fin))


class Case(unittest.TestCase):
    def ask(self, talk, x, segment, word, due=None):
        """Ask what is told of a segment; without a due talk the old one is due."""
        with self.subTest((talk, x, segment)):
            found = calm(self, tracked, talk, x, segment)
            self.assertEqual(found, (word, talk if due is None else due))
            self.assertIs(type(found), tuple)

    def from_opener(self, a, b, flags, seq, ack=201, **rest):
        """Return a segment of the opener, its numbers told as steps behind the starts."""
        return tcp(flags, around(a + seq), around(b + ack), **rest)

    def from_answerer(self, a, b, flags, seq, ack=101, **rest):
        return tcp(flags, around(b + seq), around(a + ack), **rest)


class Segments(Case):
    def test_ends(self):
        for flags in range(256):
            for many in (0, 1, 5, 1400):
                for seq in (0, 1000, MOST - 1, MOST - 2, MOST - 1401):
                    marks = (flags >> 1 & 1) + (flags & 1)
                    found = calm(self, segment_end, tcp(flags, seq, data=[0] * many))
                    self.assertEqual(found, around(seq + many + marks))

    def test_odd_segments_in_every_state(self):
        a, b = 1000, 5000
        talks = (asked(a), answered(a, b), live(a, b), live(a, b, "closing", fin=101), live(a, b, "over"),
                 ("over", asked(a)[1], None))
        for talk, x, flags, many in itertools.product(talks, (0, 1), range(256), (0, 1)):
            form = flags & (FIN + SYN + RST + ACK)
            odd = form not in FORMS or bool(form & SYN and many)
            segment = tcp(flags, 77, 88, data=[0] * many)
            word, found = tracked(talk, x, segment)
            self.assertEqual(word == "odd", odd, (talk, x, flags, many))
            if odd:
                self.assertEqual(found, talk)

    def test_a_syn_with_data_is_odd_though_it_has_the_right_numbers(self):
        a, b = 1000, 5000
        self.ask(asked(a), 0, tcp(SYN, a, data=[1]), "odd")
        self.ask(asked(a), 1, tcp(SYN + ACK, b, a + 1, data=[1]), "odd")
        self.ask(live(a, b, "over"), 0, tcp(SYN, a + 900, data=[1]), "odd")

    def test_marks_that_are_no_part_of_the_form(self):
        a, b = 1000, 5000
        for more in (PUSH, URGENT, 64, 128, PUSH + URGENT + 64 + 128):
            self.ask(asked(a), 0, tcp(SYN + more, a), "again")
            self.assertEqual(tracked(asked(a), 1, tcp(SYN + ACK + more, b, a + 1))[0], "fits")
            self.assertEqual(tracked(live(a, b), 0, tcp(ACK + more, a + 101, b + 201))[0], "fits")


class Beginnings(Case):
    def test_told_talks(self):
        for seq, window, options, wide, shift in (
            (1000, 500, (), 500, None), (0, 0, (), 1, None), (MOST - 1, 1, (3, 3, 7, 0), 1, 7),
            (MOST - 2, 2, (3, 3, 99, 0), 2, 14), (5, 65535, (1, 3, 3, 0), 65535, 0), (HALF, 7, (0, 3, 3, 7), 7, None),
        ):
            end = around(seq + 1)
            due = ("asked", (seq, end, end, wide, seq, shift, None), None)
            self.assertEqual(calm(self, begun, tcp(SYN, seq, 99, window, 5, options)), due)


class Asked(Case):
    def test_each_form_from_each_side(self):
        for a, b in STARTS:
            talk = asked(a)
            over = ("over", talk[1], None)
            self.ask(talk, 0, tcp(SYN, a), "again")
            for flags in (SYN + ACK, ACK, FIN + ACK):
                for seq in (0, 1):
                    for ack in (0, 1):
                        self.ask(talk, 0, self.from_opener(a, b, flags, seq, ack), "state")
            for flags in (SYN, ACK, FIN + ACK, RST):
                for seq in (0, 1):
                    for ack in (0, 1):
                        self.ask(talk, 1, self.from_answerer(a, b, flags, seq, ack), "state")
            self.ask(talk, 0, tcp(RST, around(a + 1)), "fits", over)
            self.ask(talk, 0, tcp(RST + ACK, around(a + 1)), "fits", over)
            self.ask(talk, 1, tcp(RST + ACK, 77, around(a + 1)), "fits", over)

    def test_numbers_beside_the_right_ones(self):
        for a, b in STARTS:
            talk = asked(a)
            for step in (-1, 1, 2, HALF):
                self.ask(talk, 0, tcp(SYN, around(a + step)), "state")
            for step in (-1, 0, 2, HALF):
                self.ask(talk, 0, tcp(RST, around(a + step)), "state")
                self.ask(talk, 0, tcp(RST + ACK, around(a + step)), "state")
                self.ask(talk, 0, tcp(RST + ACK, around(a + step), around(a + 1)), "state")
                self.ask(talk, 1, tcp(SYN + ACK, b, around(a + step)), "state")
                self.ask(talk, 1, tcp(RST + ACK, b, around(a + step)), "state")

    def test_a_syn_again_with_other_fields(self):
        talk = asked(1000)
        self.ask(talk, 0, tcp(SYN, 1000, 7, 9, 5, (3, 3, 1, 0)), "again")

    def test_answers(self):
        for a, b in STARTS:
            for window, wide in ((0, 1), (1, 1), (2, 2), (400, 400), (65535, 65535)):
                talk = asked(a)
                opener = side(a, 1, 1 + wide, 300, 1, 0)
                due = ("answered", opener, side(b, 1, 301, wide, 0, 0))
                self.ask(talk, 1, tcp(SYN + ACK, b, around(a + 1), window), "fits", due)

    def test_shifts(self):
        told = {None: (), 0: (3, 3, 0, 0), 2: (1, 3, 3, 2), 14: (3, 3, 14, 0)}
        for shift, other in itertools.product(told, told):
            talk = begun(tcp(SYN, 1000, 0, 300, 0, told[shift]))
            both = (0, 0) if shift is None or other is None else (shift, other)
            due = answered(1000, 5000, 300, 400, *both)
            self.ask(talk, 1, tcp(SYN + ACK, 5000, 1001, 400, 0, told[other]), "fits", due)


class Answered(Case):
    def test_each_form_from_each_side(self):
        for a, b in STARTS:
            talk = answered(a, b)
            over = ("over",) + talk[1:]
            self.ask(talk, 0, self.from_opener(a, b, SYN, 0), "again")
            self.ask(talk, 0, self.from_opener(a, b, SYN, 0, 1), "again")
            self.ask(talk, 0, self.from_opener(a, b, SYN + ACK, 0, 1), "state")
            self.ask(talk, 0, self.from_opener(a, b, SYN + ACK, 1, 1), "state")
            self.ask(talk, 0, self.from_opener(a, b, RST, 1), "fits", over)
            self.ask(talk, 0, self.from_opener(a, b, RST + ACK, 1), "fits", over)
            self.ask(talk, 1, self.from_answerer(a, b, SYN, 0, 1), "state")
            self.ask(talk, 1, self.from_answerer(a, b, SYN + ACK, 0, 1), "again")
            for flags in (ACK, FIN + ACK):
                for seq in (0, 1):
                    self.ask(talk, 1, self.from_answerer(a, b, flags, seq, 1), "state")
            self.ask(talk, 1, self.from_answerer(a, b, RST, 1), "fits", over)
            self.ask(talk, 1, self.from_answerer(a, b, RST + ACK, 1), "fits", over)

    def test_the_acks_of_the_opener(self):
        for a, b in STARTS:
            talk = answered(a, b)
            # The segment tells a window of 500, which is more than the 300 before.
            opener = side(a, 1, 401, 500, 1)
            answerer = side(b, 1, 501, 400, 1)
            self.ask(talk, 0, self.from_opener(a, b, ACK, 1, 1), "fits", ("open", opener, answerer))
            opener = side(a, 2, 401, 500, 1, 0, 2)
            self.ask(talk, 0, self.from_opener(a, b, FIN + ACK, 1, 1), "fits", ("closing", opener, answerer))
            opener = side(a, 4, 401, 300, 1)
            answerer = side(b, 1, 301, 400, 1)
            segment = self.from_opener(a, b, ACK, 1, 1, data=[1, 2, 3], window=20)
            self.ask(talk, 0, segment, "fits", ("open", opener, answerer))

    def test_numbers_beside_the_right_ones(self):
        for a, b in STARTS:
            talk = answered(a, b)
            for step in (-1, 1, 2, HALF):
                self.ask(talk, 0, self.from_opener(a, b, SYN, step), "state")
                self.ask(talk, 1, self.from_answerer(a, b, SYN + ACK, step, 1), "state")
            for step in (-1, 0, 2, HALF):
                for ack in (1, 201):
                    self.ask(talk, 0, self.from_opener(a, b, RST, step, ack), "state")
                    self.ask(talk, 0, self.from_opener(a, b, RST + ACK, step, ack), "state")
                self.ask(talk, 1, self.from_answerer(a, b, RST, step), "state")
                self.ask(talk, 1, self.from_answerer(a, b, RST + ACK, step), "state")
                self.ask(talk, 1, self.from_answerer(a, b, SYN + ACK, 0, step), "state")
                self.ask(talk, 0, self.from_opener(a, b, ACK, 1, step), "state")
                self.ask(talk, 0, self.from_opener(a, b, FIN + ACK, 1, step), "state")

    def test_the_window_of_the_opener(self):
        for a, b in STARTS:
            talk = answered(a, b)
            for seq, word in ((-400, "window"), (-399, "fits"), (401, "fits"), (402, "window")):
                found = tracked(talk, 0, self.from_opener(a, b, ACK, seq, 1))
                self.assertEqual(found[0], word, (a, b, seq))
                if word == "window":
                    self.assertEqual(found[1], talk)


class LyingWell(Case):
    """Point 131, in the states open and closing."""

    def words(self, talk, x, flags, rows, **rest):
        a, b = talk[1][0], talk[2][0]
        make = self.from_answerer if x else self.from_opener
        for seq, ack, right in rows:
            segment = make(a, b, flags, seq, ack, **rest)
            with self.subTest((talk, x, segment)):
                word, found = calm(self, tracked, talk, x, segment)
                self.assertEqual(word != "window", right)
                if not right:
                    self.assertEqual(found, talk)

    def test_the_end_from_the_least_to_the_greatest(self):
        for a, b in STARTS:
            for talk in (live(a, b), live(a, b, "closing", other_fin=201)):
                # The opener has sent up to 101, may send up to 461, and the answerer told 400.
                rows = [(-300, 201, False), (-299, 201, True), (461, 201, True), (462, 201, False)]
                self.words(talk, 0, ACK, rows)
                self.words(talk, 0, RST, rows)
                self.words(talk, 0, RST + ACK, rows)
            # The answerer has sent up to 201, may send up to 381, and the opener told 300.
            rows = [(-100, 101, False), (-99, 101, True), (381, 101, True), (382, 101, False), (HALF, 101, False)]
            self.words(live(a, b), 1, ACK, rows)
            self.words(live(a, b), 1, RST, rows)

    def test_data_and_fin_count_for_the_end(self):
        for a, b in STARTS:
            rows = [(-310, 201, False), (-309, 201, True), (451, 201, True), (452, 201, False)]
            self.words(live(a, b), 0, ACK, rows, data=[0] * 10)
            rows = [(89, 201, False), (90, 201, True), (450, 201, True), (451, 201, False)]
            self.words(live(a, b), 0, FIN + ACK, rows, data=[0] * 10)

    def test_acks(self):
        for a, b in STARTS:
            rows = [(101, 202, False), (101, 201, True), (101, 201 - FAR, True), (101, 200 - FAR, False)]
            self.words(live(a, b), 0, ACK, rows)
            self.words(live(a, b), 0, RST + ACK, rows)
            self.words(live(a, b), 0, FIN + ACK, rows)
            self.words(live(a, b), 0, RST, [(at, ack, True) for at, ack, right in rows])
            rows = [(201, 102, False), (201, 101, True), (201, 101 - FAR, True), (201, 100 - FAR, False)]
            self.words(live(a, b), 1, ACK, rows)
            self.words(live(a, b), 1, RST, [(at, ack, True) for at, ack, right in rows])

    def test_behind_a_fin(self):
        for a, b in STARTS:
            talk = live(a, b, "closing", fin=101)
            rows = [(102, 201, False), (101, 201, True), (100, 201, True), (-299, 201, True)]
            self.words(talk, 0, ACK, rows)
            self.words(talk, 0, RST, rows)
            self.words(talk, 0, FIN + ACK, [(99, 201, False), (100, 201, True), (101, 201, False)])
            self.words(talk, 0, FIN + ACK, [(96, 201, False), (97, 201, True), (98, 201, False)], data=[0] * 3)
            talk = live(a, b, "closing", other_fin=201)
            self.words(talk, 1, ACK, [(202, 101, False), (201, 101, True), (200, 101, True)])
            self.words(talk, 1, FIN + ACK, [(199, 101, False), (200, 101, True), (201, 101, False)])

    def test_a_first_fin_ahead_of_what_was_sent(self):
        for a, b in STARTS:
            self.words(live(a, b), 0, FIN + ACK, [(99, 201, False), (100, 201, True), (101, 201, True), (460, 201, True)])
            self.words(live(a, b), 1, FIN + ACK, [(199, 101, False), (200, 101, True), (201, 101, True)])
            # A fin of the other side is no matter.
            talk = live(a, b, "closing", other_fin=201)
            self.words(talk, 0, FIN + ACK, [(99, 201, False), (100, 201, True), (101, 201, True)])

    def test_an_end_half_a_circle_ahead(self):
        # A window as wide as it can be reaches beyond what is later.
        wide = 65535 << 14
        talk = ("open", side(0, 101, 461, wide, 61, 14), side(0, 201, 381, wide, 81, 14))
        self.words(talk, 0, ACK, [(101 - wide, 201, True), (100 - wide, 201, False)])
        self.words(talk, 0, FIN + ACK, [(101 - wide, 201, False), (100, 201, True)])


class Live(Case):
    """Point 132: the states open and closing."""

    def talks(self):
        for a, b in STARTS:
            yield a, b, live(a, b)
            yield a, b, live(a, b, "closing", fin=101)
            yield a, b, live(a, b, "closing", other_fin=201)
            yield a, b, live(a, b, "closing", fin=101, other_fin=201)

    def test_syns(self):
        for a, b, talk in self.talks():
            for ack in (0, 1, 201):
                self.ask(talk, 0, self.from_opener(a, b, SYN, 0, ack), "again")
            for step in (-1, 1, 100, 101, 5000, HALF):
                self.ask(talk, 0, self.from_opener(a, b, SYN, step), "state")
                self.ask(talk, 1, self.from_answerer(a, b, SYN + ACK, step, 1), "state")
            for step in (-1, 0, 2, 101, HALF):
                self.ask(talk, 1, self.from_answerer(a, b, SYN + ACK, 0, step), "state")
            self.ask(talk, 1, self.from_answerer(a, b, SYN + ACK, 0, 1), "again")
            for seq in (0, 1, 101, 201):
                self.ask(talk, 0, self.from_opener(a, b, SYN + ACK, seq, 1), "state")
                self.ask(talk, 1, self.from_answerer(a, b, SYN, seq, 1), "state")

    def test_rsts(self):
        for a, b, talk in self.talks():
            over = ("over",) + talk[1:]
            for flags in (RST, RST + ACK):
                for step, word, due in (
                    (61, "fits", over), (101, "fits", over), (60, "again", None), (62, "again", None),
                    (100, "again", None), (-299, "again", None), (-300, "window", None), (462, "window", None),
                ):
                    self.ask(talk, 0, self.from_opener(a, b, flags, step), word, due)
                for step, word, due in (
                    (81, "fits", over), (201, "fits", over), (80, "again", None), (82, "again", None),
                    (200, "again", None), (-99, "again", None), (-100, "window", None), (382, "window", None),
                ):
                    self.ask(talk, 1, self.from_answerer(a, b, flags, step), word, due)
            self.ask(talk, 0, self.from_opener(a, b, RST + ACK, 101, 202), "window")
            self.ask(talk, 0, self.from_opener(a, b, RST, 101, 202), "fits", over)
            self.ask(talk, 0, self.from_opener(a, b, RST + ACK, 61, 201 - FAR), "fits", over)
        self.ask(live(5, 9), 0, self.from_opener(5, 9, RST, 102), "again")
        self.ask(live(5, 9, "closing", fin=101), 0, self.from_opener(5, 9, RST, 102), "window")

    def test_rsts_with_data(self):
        for a, b in STARTS:
            talk = live(a, b)
            over = ("over",) + talk[1:]
            self.ask(talk, 0, self.from_opener(a, b, RST, 101, data=[1, 2]), "fits", over)
            self.ask(talk, 0, self.from_opener(a, b, RST, 99, data=[1, 2]), "again")

    def test_what_the_opener_sends(self):
        for a, b in STARTS:
            talk = live(a, b)
            for seq, many, end in ((101, 0, 101), (101, 5, 106), (96, 5, 101), (50, 5, 101), (200, 9, 209), (461, 0, 461)):
                for ack, heard in ((81, 81), (80, 81), (82, 82), (201, 201), (200 - FAR + 1, 81)):
                    for window in (0, 1, 299, 300, 301, 65535):
                        top = max(381, ack + max(window, 1))
                        opener = side(a, end, 461, max(300, window), 61)
                        answerer = side(b, 201, top, 400, heard)
                        segment = self.from_opener(a, b, ACK, seq, ack, data=[0] * many, window=window)
                        self.ask(talk, 0, segment, "fits", ("open", opener, answerer))

    def test_what_the_answerer_sends(self):
        for a, b in STARTS:
            talk = live(a, b)
            for seq, many, end in ((201, 0, 201), (201, 5, 206), (196, 5, 201), (381, 0, 381), (380, 1, 381)):
                for ack, heard in ((61, 61), (60, 61), (62, 62), (101, 101)):
                    for window in (0, 1, 359, 360, 361, 399, 400, 401, 65535):
                        top = max(461, ack + max(window, 1))
                        opener = side(a, 101, top, 300, heard)
                        answerer = side(b, end, 381, max(400, window), 81)
                        segment = self.from_answerer(a, b, ACK, seq, ack, data=[0] * many, window=window)
                        self.ask(talk, 1, segment, "fits", ("open", opener, answerer))

    def test_a_window_of_0_lets_one_number(self):
        for a, b in STARTS:
            opener = side(a, 101, 101, 1, 101)
            talk = ("open", opener, side(b, 201, 201, 1, 201))
            found = tracked(talk, 0, self.from_opener(a, b, ACK, 101, 201, window=0))
            self.assertEqual(found, ("fits", ("open", opener, side(b, 201, 202, 1, 201))))

    def test_shifts(self):
        for shift in (0, 1, 7, 14):
            talk = live(1000, 5000, shift=shift)
            wide = 40000 << shift
            due = ("open", side(1000, 101, 461, wide, 61, shift), side(5000, 201, 201 + wide, 400, 201))
            self.ask(talk, 0, self.from_opener(1000, 5000, ACK, 101, window=40000), "fits", due)
            talk = live(1000, 5000, other_shift=shift)
            due = ("open", side(1000, 101, 101 + wide, 300, 101), side(5000, 201, 381, wide, 81, shift))
            self.ask(talk, 1, self.from_answerer(1000, 5000, ACK, 201, window=40000), "fits", due)
            talk = live(1000, 5000, shift=shift)
            due = ("open", side(1000, 101, 461, 300, 61, shift), side(5000, 201, 381, 400, 201))
            self.ask(talk, 0, self.from_opener(1000, 5000, ACK, 101, window=0), "fits", due)

    def test_fins(self):
        for a, b in STARTS:
            segment = self.from_opener(a, b, FIN + ACK, 101, 101, window=0, data=[1, 2])
            opener, answerer = side(a, 104, 461, 300, 61, 0, 104), side(b, 201, 381, 400, 101)
            self.ask(live(a, b), 0, segment, "fits", ("closing", opener, answerer))
            segment = self.from_answerer(a, b, FIN + ACK, 201, 71, window=0)
            opener, answerer = side(a, 101, 461, 300, 71), side(b, 202, 381, 400, 81, 0, 202)
            self.ask(live(a, b), 1, segment, "fits", ("closing", opener, answerer))
            # The fin is told again, with another ack.
            talk = live(a, b, "closing", fin=101)
            segment = self.from_opener(a, b, FIN + ACK, 100, 99, window=0)
            due = ("closing", talk[1], side(b, 201, 381, 400, 99))
            self.ask(talk, 0, segment, "fits", due)

    def test_the_end_of_a_talk(self):
        for a, b in STARTS:
            for heard, other_heard, ack, state in (
                (101, 81, 201, "over"), (100, 81, 201, "closing"), (101, 81, 200, "closing"), (101, 201, 150, "over"),
                (61, 81, 201, "closing"), (101, 200, 200, "closing"),
            ):
                talk = live(a, b, "closing", 101, 201, heard, other_heard)
                segment = self.from_opener(a, b, ACK, 101, ack, window=0)
                opener = side(a, 101, 461, 300, heard, 0, 101)
                answerer = side(b, 201, 381, 400, max(ack, other_heard), 0, 201)
                self.ask(talk, 0, segment, "fits", (state, opener, answerer))
            for other_heard, ack, state in ((201, 101, "over"), (201, 100, "closing"), (200, 101, "closing")):
                talk = live(a, b, "closing", 101, 201, 61, other_heard)
                segment = self.from_answerer(a, b, ACK, 201, ack, window=0)
                opener = side(a, 101, 461, 300, ack, 0, 101)
                answerer = side(b, 201, 381, 400, other_heard, 0, 201)
                self.ask(talk, 1, segment, "fits", (state, opener, answerer))

    def test_one_fin_alone_does_not_end_a_talk(self):
        for a, b in STARTS:
            talk = live(a, b, "closing", fin=101)
            segment = self.from_answerer(a, b, ACK, 201, 101, window=0)
            opener, answerer = side(a, 101, 461, 300, 101, 0, 101), side(b, 201, 381, 400, 81)
            self.ask(talk, 1, segment, "fits", ("closing", opener, answerer))
            talk = live(a, b, "closing", other_fin=201)
            segment = self.from_opener(a, b, ACK, 101, 201, window=0)
            opener, answerer = side(a, 101, 461, 300, 61), side(b, 201, 381, 400, 201, 0, 201)
            self.ask(talk, 0, segment, "fits", ("closing", opener, answerer))

    def test_the_last_fin_with_the_last_ack(self):
        talk = live(1000, 5000, "closing", fin=101, heard=101)
        segment = self.from_answerer(1000, 5000, FIN + ACK, 201, 101, window=0)
        opener, answerer = side(1000, 101, 461, 300, 101, 0, 101), side(5000, 202, 381, 400, 81, 0, 202)
        self.ask(talk, 1, segment, "fits", ("closing", opener, answerer))
        segment = self.from_opener(1000, 5000, ACK, 101, 202, window=0)
        due = ("over", opener, side(5000, 202, 381, 400, 202, 0, 202))
        self.ask(("closing", opener, answerer), 0, segment, "fits", due)


class Over(Case):
    def test_a_new_one(self):
        for a, b in STARTS:
            for talk, end in ((("over",) + live(a, b)[1:], 101), (("over", asked(a)[1], None), 1)):
                for step, word in ((-1, "over"), (0, "over"), (1, "new"), (2, "new"), (HALF - 1, "new"), (HALF, "over")):
                    self.ask(talk, 0, tcp(SYN, around(a + end + step)), word)
                    self.ask(talk, 1, tcp(SYN, around(a + end + step)), "over")
                    self.ask(talk, 0, tcp(SYN + ACK, around(a + end + step), around(b + 201)), "over")
                    self.ask(talk, 1, tcp(SYN + ACK, around(b + end + step), around(a + 101)), "over")
                self.ask(talk, 0, tcp(SYN, a), "over")

    def test_without_an_answerer(self):
        for a, b in STARTS:
            talk = ("over", asked(a)[1], None)
            for flags in (ACK, FIN + ACK, RST, RST + ACK):
                for seq in (0, 1, 2):
                    self.ask(talk, 0, tcp(flags, around(a + seq), b), "over")
                    self.ask(talk, 1, tcp(flags, b, around(a + seq)), "over")

    def test_with_an_answerer(self):
        for a, b in STARTS:
            talk = live(a, b, "over", 101, 201, 101, 201)
            for flags in (ACK, RST, RST + ACK):
                for step, word in ((101, "again"), (100, "again"), (-299, "again"), (-300, "over"), (102, "over")):
                    self.ask(talk, 0, self.from_opener(a, b, flags, step), word)
                for step, word in ((201, "again"), (200, "again"), (-99, "again"), (-100, "over"), (202, "over")):
                    self.ask(talk, 1, self.from_answerer(a, b, flags, step), word)
            for step, word in ((99, "over"), (100, "again"), (101, "over")):
                self.ask(talk, 0, self.from_opener(a, b, FIN + ACK, step), word)
            self.ask(talk, 0, self.from_opener(a, b, ACK, 101, 202), "over")
            self.ask(talk, 1, self.from_answerer(a, b, ACK, 201, 102), "over")
            self.ask(talk, 1, self.from_answerer(a, b, RST, 201, 102), "again")

    def test_after_a_rst(self):
        for a, b in STARTS:
            talk = ("over",) + live(a, b)[1:]
            self.ask(talk, 0, self.from_opener(a, b, ACK, 461), "again")
            self.ask(talk, 0, self.from_opener(a, b, ACK, 462), "over")
            self.ask(talk, 0, self.from_opener(a, b, RST, 101), "again")
            self.ask(talk, 0, self.from_opener(a, b, SYN, 0), "over")


class Rows(Case):
    def test_a_whole_talk(self):
        steps = (
            (0, tcp(SYN, MOST - 1, 0, 1000, 0, (3, 3, 2, 0)), "again"),
            (1, tcp(SYN + ACK, 99, 0, 2000, 0, (3, 3, 3, 0)), "fits"),
            (1, tcp(SYN + ACK, 99, 0, 2000, 0, (3, 3, 3, 0)), "again"),
            (0, tcp(ACK, 0, 100, 250), "fits"),
            (0, tcp(ACK + PUSH, 0, 100, 250, data=[0] * 1400), "fits"),
            (0, tcp(ACK, 1400, 100, 250, data=[0] * 601), "window"),
            (0, tcp(ACK, 1400, 100, 250, data=[0] * 600), "fits"),
            (1, tcp(ACK, 100, 2000, 300, data=[0] * 1000), "fits"),
            (0, tcp(ACK, 2000, 1100, 250), "fits"),
            (1, tcp(FIN + ACK, 1100, 2000, 300), "fits"),
            (0, tcp(FIN + ACK, 2000, 1101, 250), "fits"),
            (0, tcp(ACK, 2001, 1101, 250), "fits"),
            (1, tcp(ACK, 1101, 2000, 300), "fits"),
            (1, tcp(ACK, 1101, 2001, 300), "fits"),
            (1, tcp(ACK, 1101, 2001, 300), "again"),
            (0, tcp(SYN, 2001), "over"),
            (0, tcp(SYN, 2002), "new"),
        )
        states = ("asked", "answered", "answered") + ("open",) * 6 + ("closing",) * 4 + ("over",) * 4
        talk = begun(tcp(SYN, MOST - 1, 0, 1000, 0, (3, 3, 2, 0)))
        for (x, segment, word), state in zip(steps, states):
            found, talk = tracked(talk, x, segment)
            self.assertEqual((found, talk[0]), (word, state), segment)
        self.assertEqual(talk[1], (MOST - 1, 2001, 4401, 1000, 2001, 2, 2001))
        self.assertEqual(talk[2], (99, 1101, 2101, 2400, 1101, 3, 1101))


if __name__ == "__main__":
    unittest.main()
