"""Links and channels: bags of messages, and their ends (points 720 to 724)."""

from onepolicy.boxes import is_number
from onepolicy.errors import Misstep

# Bodies are kept, ahead of their turn, if they are at most so many numbers ahead.
WINDOW = 16


class Bag:
    """The row of the messages that are under way over a link, in the order in which they were put."""

    def __init__(self):
        self.messages = []

    def put(self, message):
        """Put a message behind the others."""
        self.messages.append(message)

    def rows(self):
        """Return the list of the messages."""
        return list(self.messages)

    def at(self, index):
        """Return the message with an index of any kind; raise Misstep."""
        if not is_number(index) or not 0 <= index < len(self.messages):
            raise Misstep("message")
        return self.messages[index]

    def take(self, index):
        """Take out the message with an index of any kind and return it; raise Misstep."""
        message = self.at(index)
        del self.messages[index]
        return message

    def twin(self):
        """Return an independent copy."""
        other = Bag()
        other.messages = list(self.messages)
        return other


class Sender:
    """The sending end of a channel, in a life."""

    def __init__(self, life):
        self.life = life
        self.number = 0
        self.messages = []

    def send(self, body):
        """Return the data message of a new body, which is kept."""
        self.number += 1
        message = ("data", self.life, self.number, body)
        self.messages.append(message)
        return message

    def again(self):
        """Return the first message that is kept; raise Misstep."""
        if len(self.messages) == 0:
            raise Misstep("nothing")
        return self.messages[0]

    def had(self, k):
        """Take that everything up to a number has been had."""
        self.messages = [message for message in self.messages if message[2] > k]

    def rows(self):
        """Return the list of the messages that are kept."""
        return list(self.messages)

    def twin(self):
        """Return an independent copy."""
        other = Sender(self.life)
        other.number = self.number
        other.messages = list(self.messages)
        return other


class Receiver:
    """The receiving end of a channel, in a life."""

    def __init__(self, life):
        self.life = life
        self.due = 1
        # From the numbers of bodies that came ahead of their turn to the bodies.
        self.bodies = {}

    def receive(self, message):
        """Take a data message of this life; return the pair of the list of the bodies taken now, and the answer."""
        _, _, k, body = message
        if self.due <= k <= self.due + WINDOW:
            self.bodies[k] = body
        taken = []
        while self.due in self.bodies:
            taken.append(self.bodies.pop(self.due))
            self.due += 1
        return (taken, ("had", self.life, self.due - 1))

    def rows(self):
        """Return the pair of the due number and the ascending list of the pairs of numbers and bodies that are kept."""
        return (self.due, [(k, self.bodies[k]) for k in sorted(self.bodies)])

    def twin(self):
        """Return an independent copy."""
        other = Receiver(self.life)
        other.due = self.due
        other.bodies = {**self.bodies}
        return other
