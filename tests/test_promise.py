"""What is promised over the whole program, looked at over lines of calls drawn from fixed seeds.

After each call no host believes in an address for longer than a server wrote down for it, and what comes out of a
relay is an answer to what came in there.
"""

import random

from relayleases.parts import OFF as IS_OFF
from tests.helper import (ASKING, ASSIGN, BEGIN, CLIENT, DELIVER, DOUBLE, FLOW, FORGE, FORGET, LOSE, NEXT, OFF, ON,
                          OUT, PATH, PEEK, PLUG, RELAY, REST, SEEKING, STATE, TICK, UNPLUG, UP, WITHDRAW, WRITTEN,
                          LineTest)

HOSTS = (1, 2, 3)
CIRCUITS = (0, 1, 2)
ADDRESSES = (0, 70, 71)
LENS = (1, 3, 8, 40, 120, 500)
WEIGHTS = {PLUG: 4, UNPLUG: 2, ON: 6, OFF: 2, FORGET: 1, ASSIGN: 4, WITHDRAW: 1, REST: 1, TICK: 18, DELIVER: 40,
           LOSE: 2, DOUBLE: 4, FLOW: 12, FORGE: 6, CLIENT: 1, WRITTEN: 1, PEEK: 1, PATH: 1, NEXT: 1, STATE: 1}


class PromiseTest(LineTest):
    def drawn(self, draw, place):
        """Numbers for a call, most of them such as are granted."""
        host = draw.choice(HOSTS)
        relay = draw.randrange(len(self.world.relays))
        circuit = draw.choice(CIRCUITS)
        server = draw.randrange(self.world.servers)
        if place == TICK:
            due = self.call(NEXT)[1]
            return (draw.choice((0, 1, 5, max(due - self.world.now, 0), 30)),)
        if place == FORGE:
            client = self.world.clients.get(host)
            number = 1 if client is None else max(client.counter - draw.randrange(2), 1)
            return (relay, circuit, host, number, draw.randint(1, 5), draw.randint(-1, server), draw.choice(ADDRESSES),
                    draw.choice((0, 0, 0, 1))) + draw.choice(((), (), (), (0, 1)))
        if place in (DELIVER, LOSE, DOUBLE, PEEK):
            return (draw.randrange(max(len(self.world.bag), 1)),)
        if place in (UNPLUG, ON, OFF, FORGET, CLIENT):
            return (host,)
        return {
            PLUG: (host, relay, circuit), ASSIGN: (server, host, relay, draw.choice(ADDRESSES), draw.choice(LENS)),
            WITHDRAW: (server, host, relay), REST: (server, draw.choice((0, 0, 0, 1))), FLOW: (draw.randrange(12),),
            WRITTEN: (server, host), PATH: (relay, circuit), NEXT: (), STATE: (),
        }[place]

    def begins(self, draw):
        self.done(BEGIN, draw.randint(1, 3), draw.choice((3, 8, 200)), 0)
        for step in range(draw.randrange(4)):
            self.call(RELAY, draw.randrange(len(self.world.relays)), draw.choice(CIRCUITS), draw.choice((1, 2, 16)))
        for host in HOSTS:
            self.call(PLUG, *self.drawn(draw, PLUG))
            self.call(ON, host)
        for step in range(12):
            self.call(ASSIGN, *self.drawn(draw, ASSIGN))

    def looks_at_leases(self):
        held = 0
        for host, client in self.world.clients.items():
            if client.lease is not None:
                end = self.world.written[(client.lease[0], host, client.lease[1])]
                self.assertLessEqual(client.lease[4], end)
                held += client.phase != IS_OFF
        return held

    def looks_at_the_bag(self, came_in):
        """What came in is kept with the place where it did; what is out must be an answer to such a one there."""
        self.assertLessEqual(len(self.world.bag), self.world.cap)
        for message in self.world.bag:
            if message.place[0] == UP and message.kind in (SEEKING, ASKING) and message.marks == ():
                came_in.add((message.host, message.number, message.place[1:]))
            if message.place[0] == OUT:
                self.assertIn((message.host, message.number, message.place[1:]), came_in)

    def test_lines_of_calls(self):
        places = list(WEIGHTS)
        held = 0
        for seed in range(150):
            draw = random.Random(seed)
            LineTest.setUp(self)
            self.begins(draw)
            came_in = set()
            self.looks_at_the_bag(came_in)
            while len(self.rows) < 280:
                place = draw.choices(places, WEIGHTS.values())[0]
                numbers = self.drawn(draw, place)
                if place == FLOW:
                    # One by one, so that nothing comes in and goes out unseen.
                    for step in range(numbers[0]):
                        self.call(FLOW, 1)
                        self.looks_at_the_bag(came_in)
                else:
                    self.call(place, *numbers)
                held += self.looks_at_leases()
                self.looks_at_the_bag(came_in)
            LineTest.tearDown(self)
        # Lines in which nobody ever holds an address would promise nothing.
        self.assertGreater(held, 1000)
