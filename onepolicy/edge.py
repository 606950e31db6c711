"""The edge: the door, the workers and their links, step by step (points 740 to 745)."""

from onepolicy.door import Door, is_whole
from onepolicy.errors import Misstep, Wrong
from onepolicy.links import Bag, Receiver, Sender
from onepolicy.versions import fault_of_policy, policy_of, values_of_policy
from onepolicy.workers import Worker

DOOR = "door"

# How many parts each step has.
STEPS = {"arrive": 3, "bring": 2, "deliver": 4, "lose": 4, "double": 4, "again": 3, "anew": 2}


class Edge:
    """An edge at its beginning, with a policy as version 1."""

    def __init__(self, ground, policy):
        found = fault_of_policy(ground, policy)
        if found is not None:
            raise Wrong(found[0], found[1])
        self.ground = ground
        self.door = Door(ground)
        # What the door has of each worker: the ends of its channels, and the dict of the events that are due.
        self.senders = [Sender(1) for _ in range(ground[3])]
        self.receivers = [Receiver(1) for _ in range(ground[3])]
        self.due = [{} for _ in range(ground[3])]
        self.workers = [Worker(ground, w, 1) for w in range(ground[3])]
        self.bags = {link: Bag() for link in self._links()}
        self.entries = []
        self.last = 0
        self.policies = {}
        self.newest = 0
        self.stamp = 1
        self.order = None
        self.has = {}
        self._enter(policy)
        for worker in self.workers:
            worker.begin(None, [self._triple(1)])

    def twin(self):
        """Return an independent copy."""
        other = Edge(self.ground, self.policies[1][0])
        other.door = self.door.twin()
        other.senders = [sender.twin() for sender in self.senders]
        other.receivers = [receiver.twin() for receiver in self.receivers]
        other.due = [{**due} for due in self.due]
        other.workers = [worker.twin() for worker in self.workers]
        other.bags = {link: self.bags[link].twin() for link in self.bags}
        other.entries = list(self.entries)
        other.last = self.last
        other.policies = {number: ({**self.policies[number][0]}, self.policies[number][1]) for number in self.policies}
        other.newest = self.newest
        other.stamp = self.stamp
        other.order = self.order
        other.has = {**self.has}
        return other

    def _links(self):
        """Return the list of the links: for each worker that to it, and then that from it."""
        found = []
        for w in range(self.ground[3]):
            found.extend([(DOOR, w), (w, DOOR)])
        return found

    def _enter(self, policy):
        """Enter a right policy as the version with the next number."""
        self.newest += 1
        # What was given up is no longer there, so the stamped version has the greatest cut of the others.
        cut = self.policies[self.stamp][1] if self.newest > 1 else 0
        if policy["keep"] == "cut":
            cut = self.newest
        self.policies[self.newest] = (policy_of(values_of_policy(policy)), cut)

    def _triple(self, number):
        """Return the triple of a version's number, its policy's values and its cut."""
        policy, cut = self.policies[number]
        return (number, values_of_policy(policy), cut)

    def step(self, step):
        """Make a step, a value of any kind; raise Misstep or Wrong, and then change nothing."""
        if not isinstance(step, tuple) or len(step) == 0 or not isinstance(step[0], str):
            raise Misstep("form")
        if len(step) != STEPS.get(step[0], 0):
            raise Misstep("form")
        if step[0] == "arrive":
            self._arrive(step[1], step[2])
        elif step[0] == "bring":
            self._bring(step[1])
        elif step[0] == "anew":
            self._begin_anew(step[1])
        else:
            self._move(step[0], self._link_of(step[1], step[2]), step[3:])

    def _is_worker(self, value):
        """Return whether a value of any kind is a worker."""
        return is_whole(value, 0) and value < self.ground[3]

    def _link_of(self, a, b):
        if not (a == DOOR and self._is_worker(b) or b == DOOR and self._is_worker(a)):
            raise Misstep("link")
        return (a, b)

    def _arrive(self, moment, arrival):
        events = self.door.events(moment, arrival)
        for w, event in events:
            n = self.door.next()
            self.entries.append(("came", n, moment, self.stamp, w, event))
            self.due[w][n] = True
            self.last = moment
            self._send_to(w, ("event", n, moment, self.stamp, event))

    def _send_to(self, w, body):
        """Send a body from the door to a worker."""
        self.bags[(DOOR, w)].put(self.senders[w].send(body))

    def _bring(self, policy):
        if self.order is not None:
            raise Misstep("order")
        found = fault_of_policy(self.ground, policy)
        if found is not None:
            raise Wrong(found[0], found[1])
        self._enter(policy)
        self.order = self.newest
        self.has = {}
        for w in range(self.ground[3]):
            self._send_to(w, ("have",) + self._triple(self.order))

    def _begin_anew(self, w):
        if not self._is_worker(w):
            raise Misstep("worker")
        life = self.workers[w].life + 1
        self.workers[w] = Worker(self.ground, w, life)
        self.bags[(w, DOOR)].put(("here", life))

    def _move(self, word, link, rest):
        """Do with the messages of a link what the word of a step tells."""
        bag = self.bags[link]
        if word == "again":
            bag.put(self._again(link))
        elif word == "double":
            bag.put(bag.at(rest[0]))
        elif word == "lose":
            bag.take(rest[0])
        elif link[0] == DOOR:
            self._deliver_to_worker(link[1], bag.take(rest[0]))
        else:
            self._deliver_to_door(link[0], bag.take(rest[0]))

    def _again(self, link):
        """Return the message that the first end of a link sends once more."""
        if link[0] == DOOR:
            return self.senders[link[1]].again()
        worker = self.workers[link[0]]
        if worker.plain is None:
            return ("here", worker.life)
        return worker.sender.again()

    def _deliver_to_worker(self, w, message):
        worker, back = self.workers[w], self.bags[(w, DOOR)]
        if message[1] != worker.life:
            return
        if message[0] == "had":
            worker.sender.had(message[2])
            return
        bodies, answer = worker.receiver.receive(message)
        for body in bodies:
            done, answers = worker.take(body)
            if done is not None:
                n, outputs, fates = done
                self.entries.append(("did", n, tuple(outputs), tuple(fates)))
                del self.due[w][n]
            for other in answers:
                back.put(worker.sender.send(other))
        back.put(answer)

    def _deliver_to_door(self, w, message):
        life = self.senders[w].life
        if message[0] == "here":
            if message[1] > life:
                self._take_fall(w, message[1])
        elif message[1] == life and message[0] == "had":
            self.senders[w].had(message[2])
        elif message[1] == life:
            bodies, answer = self.receivers[w].receive(message)
            for body in bodies:
                self._take_answer(w, body)
            self.bags[(DOOR, w)].put(answer)

    def _take_fall(self, w, life):
        """Take that a worker was begun anew with a life."""
        self.entries.append(("fell", w, self.last))
        self.entries.extend([("lost", n) for n in sorted(self.due[w])])
        self.due[w] = {}
        self.senders[w] = Sender(life)
        self.receivers[w] = Receiver(life)
        self.has.pop(w, None)
        numbers = [self.stamp] if self.order is None else [self.stamp, self.order]
        self._send_to(w, ("go on", life, self.last, tuple([self._triple(number) for number in numbers])))

    def _take_answer(self, w, body):
        """Take what a worker tells of a version; of one that is ordered no more it counts for nothing."""
        v = body[1]
        if v != self.order:
            return
        if body[0] == "has":
            self.has[w] = True
            if len(self.has) == self.ground[3]:
                self.stamp = v
                self.order = None
                self.entries.append(("stamp", v))
            return
        self.order = None
        del self.policies[v]
        self.entries.append(("gave up", v, w, body[2]))
        for other in range(self.ground[3]):
            self._send_to(other, ("drop", v))

    def links(self):
        """Return a dict from the links to the lists of the messages under way."""
        return {link: self.bags[link].rows() for link in self._links()}

    def kept(self):
        """Return a dict from the links to the pairs of what the sender and the receiver keep."""
        found = {}
        for w, worker in enumerate(self.workers):
            found[(DOOR, w)] = (self.senders[w].rows(), worker.receiver.rows())
            found[(w, DOOR)] = (worker.sender.rows(), self.receivers[w].rows())
        return found

    def lives(self):
        """Return, for each worker, its life, the life to which the door speaks, and whether it goes on."""
        return [
            (worker.life, sender.life, worker.plain is not None)
            for worker, sender in zip(self.workers, self.senders)
        ]

    def stamped(self):
        """Return the pair of the number of the stamped version and that of the ordered one, or None."""
        return (self.stamp, self.order)

    def version(self, number):
        """Return the pair of the policy and the cut of a version; raise Misstep."""
        if not is_whole(number, 1) or number not in self.policies:
            raise Misstep("version")
        policy, cut = self.policies[number]
        return ({**policy}, cut)

    def log(self):
        """Return the list of the rows."""
        return list(self.entries)
