"""Points 720 to 724: bags, and the sending and receiving ends of channels."""

import random
import unittest

from onepolicy.errors import Misstep
from onepolicy.links import WINDOW, Bag, Receiver, Sender
from samples import calm


def data(k, body=None, life=1):
    return ("data", life, k, ("body", k) if body is None else body)


class Bags(unittest.TestCase):
    def miss(self, function, index):
        with self.assertRaises(Misstep) as caught:
            function(index)
        self.assertEqual(caught.exception.word, "message")

    def test_rows(self):
        bag = Bag()
        self.assertEqual(bag.rows(), [])
        for k in (3, 1, 2, 1):
            bag.put(data(k))
        self.assertEqual(bag.rows(), [data(3), data(1), data(2), data(1)])
        self.assertEqual([bag.at(index) for index in range(4)], bag.rows())
        self.assertEqual(bag.take(1), data(1))
        self.assertEqual(bag.rows(), [data(3), data(2), data(1)])
        self.assertEqual((bag.take(2), bag.take(0), bag.take(0), bag.rows()), (data(1), data(3), data(2), []))

    def test_no_such_index(self):
        bag = Bag()
        for function in (bag.at, bag.take):
            for index in (0, -1, 1, None, "0", True, False, 0.0, (0,), [0], {}):
                self.miss(function, index)
        bag.put(data(1))
        for function in (bag.at, bag.take):
            for index in (-1, 1, None, "0", True, False, 0.0, (0,), [0], {}):
                self.miss(function, index)
        self.assertEqual(bag.rows(), [data(1)])

    def test_nothing_is_shared(self):
        bag = Bag()
        bag.put(data(1))
        bag.rows().clear()
        twin = bag.twin()
        twin.put(data(2))
        bag.take(0)
        self.assertEqual((bag.rows(), twin.rows()), ([], [data(1), data(2)]))


class Senders(unittest.TestCase):
    def nothing(self, sender):
        with self.assertRaises(Misstep) as caught:
            sender.again()
        self.assertEqual(caught.exception.word, "nothing")

    def test_sending(self):
        for life in (1, 7):
            sender = Sender(life)
            self.assertEqual((sender.life, sender.rows()), (life, []))
            self.nothing(sender)
            sent = [sender.send(("body", k)) for k in (1, 2, 3)]
            self.assertEqual(sent, [data(k, life=life) for k in (1, 2, 3)])
            self.assertEqual(sender.rows(), sent)
            self.assertEqual([sender.again(), sender.again()], [sent[0], sent[0]])
            sender.had(0)
            self.assertEqual(sender.rows(), sent)
            sender.had(2)
            self.assertEqual((sender.rows(), sender.again()), (sent[2:], sent[2]))
            sender.had(1)
            self.assertEqual(sender.rows(), sent[2:])
            self.assertEqual(sender.send(("body", 4)), data(4, life=life))
            sender.had(9)
            self.assertEqual(sender.rows(), [])
            self.nothing(sender)
            self.assertEqual(sender.send(("body", 5)), data(5, life=life))

    def test_nothing_is_shared(self):
        sender = Sender(1)
        sender.send(("body", 1))
        sender.rows().clear()
        twin = sender.twin()
        self.assertEqual((twin.life, twin.send(("x",)), sender.send(("y",))), (1, ("data", 1, 2, ("x",)), ("data", 1, 2, ("y",))))
        self.assertEqual((sender.rows()[0], twin.rows()[0]), (data(1), data(1)))
        twin.had(1)
        self.assertEqual((len(sender.rows()), len(twin.rows())), (2, 1))


class Receivers(unittest.TestCase):
    def take(self, receiver, k, bodies, had, life=1):
        found = calm(self, receiver.receive, data(k, life=life))
        self.assertEqual(found, ([("body", at) for at in bodies], ("had", life, had)))
        self.assertEqual(type(found), tuple)

    def test_in_order(self):
        receiver = Receiver(3)
        self.assertEqual((receiver.life, receiver.rows()), (3, (1, [])))
        for k in range(1, 6):
            self.take(receiver, k, [k], k, 3)
        self.assertEqual(receiver.rows(), (6, []))

    def test_in_any_order(self):
        receiver = Receiver(1)
        self.take(receiver, 3, [], 0)
        self.take(receiver, 2, [], 0)
        self.assertEqual(receiver.rows(), (1, [(2, ("body", 2)), (3, ("body", 3))]))
        self.take(receiver, 5, [], 0)
        self.take(receiver, 1, [1, 2, 3], 3)
        self.assertEqual(receiver.rows(), (4, [(5, ("body", 5))]))
        for k in (1, 3, 5):
            self.take(receiver, k, [], 3)
        self.take(receiver, 4, [4, 5], 5)
        self.assertEqual(receiver.rows(), (6, []))

    def test_the_window(self):
        self.assertEqual(WINDOW, 16)
        receiver = Receiver(1)
        self.take(receiver, 18, [], 0)
        self.take(receiver, 1000, [], 0)
        self.assertEqual(receiver.rows(), (1, []))
        self.take(receiver, 17, [], 0)
        self.assertEqual(receiver.rows(), (1, [(17, ("body", 17))]))
        self.take(receiver, 1, [1], 1)
        self.take(receiver, 19, [], 1)
        self.take(receiver, 18, [], 1)
        self.assertEqual([k for k, _ in receiver.rows()[1]], [17, 18])

    def test_nothing_is_shared(self):
        receiver = Receiver(1)
        self.take(receiver, 3, [], 0)
        receiver.rows()[1].clear()
        twin = receiver.twin()
        self.take(twin, 1, [1], 1)
        self.take(receiver, 2, [], 0)
        self.assertEqual((receiver.rows(), twin.rows(), twin.life), (
            (1, [(2, ("body", 2)), (3, ("body", 3))]), (2, [(3, ("body", 3))]), 1))
        self.assertEqual(twin.twin().rows(), twin.rows())


class Channels(unittest.TestCase):
    def test_what_is_taken_is_a_beginning_of_what_was_sent(self):
        draw = random.Random(724)
        for _ in range(60):
            sender, receiver, there, back = Sender(2), Receiver(2), Bag(), Bag()
            sent, taken = [], []
            for _ in range(150):
                kind, bag = draw.randrange(7), draw.choice([there, back])
                if kind < 2:
                    sent.append(("body", len(sent)))
                    there.put(sender.send(sent[-1]))
                elif kind == 2 and sender.rows():
                    there.put(sender.again())
                elif bag.rows():
                    at = draw.randrange(len(bag.rows()))
                    if kind == 3:
                        bag.take(at)
                    elif kind == 4:
                        bag.put(bag.at(at))
                    else:
                        self.deliver(bag, at, sender, receiver, back, taken)
                self.assertEqual(taken, sent[:len(taken)])
            # Some row of deliveries and of steps "again" brings all.
            while sender.rows():
                there.put(sender.again())
                while there.rows() or back.rows():
                    self.deliver(there if there.rows() else back, 0, sender, receiver, back, taken)
            self.assertEqual(taken, sent)

    def deliver(self, bag, at, sender, receiver, back, taken):
        message = bag.take(at)
        if message[0] == "had":
            sender.had(message[2])
        else:
            bodies, answer = receiver.receive(message)
            taken += bodies
            back.put(answer)


if __name__ == "__main__":
    unittest.main()
