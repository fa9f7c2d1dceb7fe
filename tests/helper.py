"""What the tests share: playing calls one by one while looking into the world, and again through the interface."""

import unittest

from relayleases.parts import Message
from relayleases.world import answers, play

(BEGIN, RELAY, PLUG, UNPLUG, ON, OFF, FORGET, ASSIGN, WITHDRAW, REST, TICK, DELIVER, LOSE, DOUBLE, FLOW, FORGE, CLIENT,
 WRITTEN, PEEK, PATH, NEXT, STATE) = range(22)

# The kinds of a message's place, and the kinds of messages.
(UP, AT_SERVER, DOWN, OUT) = range(4)
(SEEKING, OFFER, ASKING, YES, NO) = range(1, 6)

LAST_HOST = 281474976710655
LAST_ADDRESS = 4294967295
LAST_CIRCUIT = 4095
LAST_TIME = 1000000000000000
LONGEST = 1000000000
FARTHEST = 1000000000000000000


def laid(place, *numbers):
    """One call as it stands in the list that is handed in."""
    return [place, len(numbers), *numbers, 0]


def rows_of(given):
    """The answered rows, from the list that is given back."""
    rows = []
    at = 0
    while at < len(given):
        rows.append(given[at + 1:at + 1 + given[at]])
        at += 1 + given[at]
    return rows


def told(place, host, number, kind, server=-1, address=0, length=0, hops=0, marks=()):
    """A message's numbers, as the calls answer them."""
    flat = [part for mark in marks for part in mark]
    return [*place, host, number, kind, server, address, length, hops, len(marks), *flat]


def shown(thing):
    """All that hangs on a thing, in plain values that stay as they are."""
    if isinstance(thing, list):
        return [shown(part) for part in thing]
    if isinstance(thing, dict):
        return {key: shown(part) for key, part in thing.items()}
    if hasattr(thing, "__dict__"):
        return shown(vars(thing))
    return thing


class LineTest(unittest.TestCase):
    """A test that plays one line of calls.

    When it ends, the whole line is played again through the interface, where it must be answered the same; not so
    if the test set values of the world by hand (by_hand).
    """

    def setUp(self):
        self.world = None
        self.calls = []
        self.rows = []
        self.by_hand = False

    def tearDown(self):
        if self.by_hand or not self.calls:
            return
        self.assertLessEqual(len(self.rows), 400)
        handed = list(self.calls)
        self.assertEqual(rows_of(answers(handed)), self.rows)
        self.assertEqual(handed, self.calls)

    def anew(self):
        """End the line, with what is looked at then, and begin another."""
        self.tearDown()
        self.setUp()

    def call(self, place, *numbers):
        self.world, row = play(self.world, place, list(numbers))
        self.calls.extend(laid(place, *numbers))
        self.rows.append(list(row))
        return row

    def done(self, place, *numbers):
        """A call that must be granted."""
        row = self.call(place, *numbers)
        self.assertEqual(row[0], 0, (place, numbers))
        return row[1:]

    def refused(self, number, place, *numbers):
        """A call that must be refused with that number and leave all as it was."""
        world = self.world
        before = shown(world)
        self.assertEqual(self.call(place, *numbers), [number], (place, numbers))
        self.assertIs(self.world, world)
        self.assertEqual(shown(world), before)

    def client(self, host):
        return self.world.clients[host]

    def hand(self, host):
        """A client whose values the test sets by hand."""
        self.by_hand = True
        return self.world.clients[host]

    def bag(self):
        """The messages in the bag, each with all its values in one tuple."""
        return [(m.place, m.host, m.number, m.kind, m.server, m.address, m.length, m.hops, m.marks)
                for m in self.world.bag]

    def lay(self, place, host, number, kind, server=None, address=0, length=0, hops=0, marks=()):
        """Lay a message into the bag by hand, one that calls alone can't bring there."""
        self.by_hand = True
        self.world.bag.append(Message(place, host, number, kind, server, address, length, hops, marks))

    def delivered(self, k=0):
        """Deliver the message at place k; the numbers of each message that was put, taken from the row answered."""
        row = self.done(DELIVER, k)
        put = []
        at = 1
        while at < len(row):
            put.append(row[at + 1:at + 1 + row[at]])
            at += 1 + row[at]
        self.assertEqual(len(put), row[0])
        self.assertEqual(sum(len(numbers) + 1 for numbers in put) + 1, len(row))
        return put

    def peeked(self):
        """The numbers of all messages in the bag."""
        return [self.done(PEEK, k) for k in range(len(self.world.bag))]
