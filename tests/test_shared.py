"""What all calls share: -9 without a world, then -1 out of range, then a call's own refusals."""

from relayleases.parts import World
from tests.helper import (ASSIGN, BEGIN, CLIENT, DELIVER, DOUBLE, FARTHEST, FLOW, FORGE, FORGET, LAST_ADDRESS,
                          LAST_CIRCUIT, LAST_HOST, LAST_TIME, LONGEST, LOSE, NEXT, OFF, ON, PATH, PEEK, PLUG, RELAY,
                          REST, STATE, TICK, UNPLUG, WITHDRAW, WRITTEN, LineTest, shown)

HOSTS = (0, LAST_HOST)
CIRCUITS = (0, LAST_CIRCUIT)
ADDRESSES = (0, LAST_ADDRESS)
# In the world of RangeTest there are three relays and four servers, and three messages in the bag.
RELAYS = (0, 2)
SERVERS = (0, 3)
PLACES = (0, 2)
PAIRED = (0, 4095)

# For each call: numbers that are granted, and for each of them the least and the greatest that is.
CALLS = {
    BEGIN: ((2, 10, 5), ((1, 4), (1, 10000), (0, LAST_TIME))),
    RELAY: ((1, 9, 3), (RELAYS, CIRCUITS, (1, 16))),
    PLUG: ((7, 1, 9), (HOSTS, RELAYS, CIRCUITS)),
    UNPLUG: ((7,), (HOSTS,)),
    ON: ((7,), (HOSTS,)),
    OFF: ((7,), (HOSTS,)),
    FORGET: ((7,), (HOSTS,)),
    ASSIGN: ((1, 7, 1, 50, 60), (SERVERS, HOSTS, RELAYS, ADDRESSES, (1, LONGEST))),
    WITHDRAW: ((1, 7, 1), (SERVERS, HOSTS, RELAYS)),
    REST: ((1, 1), (SERVERS, (0, 1))),
    TICK: ((5,), ((0, 20000),)),
    DELIVER: ((1,), (PLACES,)),
    LOSE: ((1,), (PLACES,)),
    DOUBLE: ((1,), (PLACES,)),
    FLOW: ((5,), ((0, 1000),)),
    FORGE: ((1, 9, 7, 1, 3, 2, 50, 4, 1, 2, 3, 4),
            (RELAYS, CIRCUITS, HOSTS, (1, FARTHEST), (1, 5), (-1, 3), ADDRESSES, (0, 16)) + (PAIRED,) * 4),
    CLIENT: ((7,), (HOSTS,)),
    WRITTEN: ((1, 7), (SERVERS, HOSTS)),
    PEEK: ((1,), (PLACES,)),
    PATH: ((1, 9), (RELAYS, CIRCUITS)),
    NEXT: ((), ()),
    STATE: ((), ()),
}


def with_one(numbers, at, number):
    """The numbers with another one at that place."""
    return numbers[:at] + (number,) + numbers[at + 1:]


class NoWorldTest(LineTest):
    def test_every_call_but_begin_needs_a_world(self):
        for place in range(1, 22):
            self.assertEqual(self.call(place, *CALLS[place][0]), [-9])
        self.assertIsNone(self.world)

    def test_no_world_is_looked_at_ahead_of_ranges(self):
        for place in range(1, 22):
            numbers = CALLS[place][0]
            for at in range(len(numbers)):
                for wrong in (-1, FARTHEST, -FARTHEST):
                    self.assertEqual(self.call(place, *with_one(numbers, at, wrong)), [-9])

    def test_begin_out_of_range_without_a_world(self):
        for wrong in ((0, 1, 0), (5, 1, 0), (1, 0, 0), (1, 10001, 0), (1, 1, -1), (1, 1, LAST_TIME + 1)):
            self.refused(-1, BEGIN, *wrong)
        self.assertEqual(self.call(TICK, 0), [-9])

    def test_a_refused_begin_keeps_the_world(self):
        self.done(BEGIN, 2, 5, 9)
        self.done(RELAY, 0, 1, 2)
        self.done(PLUG, 3, 1, 4)
        self.done(ON, 3)
        self.refused(-1, BEGIN, 5, 5, 9)
        self.refused(-1, BEGIN, 1, 0, 9)
        self.refused(-1, BEGIN, 1, 5, -1)
        self.assertEqual(self.call(TICK, 4), [0, 13, 1])

    def test_begin_makes_a_world_with_nothing_in_it(self):
        self.assertEqual(self.call(BEGIN, 3, 10000, 77), [0])
        world = shown(self.world)
        self.assertEqual(world.pop("relays"), [{"parent": None, "circuit": None, "limit": 16}])
        self.assertEqual(world, {"now": 77, "servers": 3, "cap": 10000, "hung": {}, "clients": {},
                                 "resting": [False, False, False], "assigned": {}, "written": {}, "bag": []})

    def test_begin_at_the_edges_of_its_ranges(self):
        self.assertEqual(self.call(BEGIN, 1, 1, 0), [0])
        self.assertEqual(self.call(TICK, 0), [0, 0, 0])
        self.assertEqual(self.call(BEGIN, 4, 10000, LAST_TIME), [0])
        self.assertEqual(self.call(TICK, 0), [0, LAST_TIME, 0])

    def test_a_second_begin_is_a_new_world(self):
        self.done(BEGIN, 4, 5, 9)
        self.done(RELAY, 0, 1, 2)
        self.done(PLUG, 3, 1, 4)
        self.done(ON, 3)
        self.done(ASSIGN, 3, 3, 1, 4, 5)
        self.done(REST, 3, 1)
        self.done(TICK, 100)
        self.assertEqual(self.call(BEGIN, 2, 6, 40), [0])
        self.assertEqual(shown(self.world), shown(World(2, 6, 40)))
        self.refused(-1, REST, 2, 1)
        self.refused(-1, PLUG, 3, 1, 4)
        self.refused(-2, ON, 3)
        self.refused(-2, WITHDRAW, 1, 3, 0)
        self.assertEqual(self.call(TICK, 100), [0, 140, 0])
        self.assertEqual(self.call(RELAY, 0, 1, 2), [0, 1])


class RangeTest(LineTest):
    def prepare(self, place):
        """A world in which the call is granted with any numbers within the ranges."""
        self.done(BEGIN, 4, 100, 0)
        self.done(RELAY, 0, 100, 16)
        self.done(RELAY, 0, 101, 16)
        if place in (UNPLUG, ON, OFF, FORGET, FORGE, CLIENT, DELIVER, LOSE, DOUBLE, PEEK):
            for host in (0, 7, LAST_HOST):
                self.done(PLUG, host, 0, 5)
        if place in (OFF, DELIVER, LOSE, DOUBLE, PEEK):
            for host in (0, 7, LAST_HOST):
                self.done(ON, host)
        if place == FORGE:
            for host in (0, 7, LAST_HOST):
                self.hand(host).counter = FARTHEST
        if place == WITHDRAW:
            numbers = CALLS[WITHDRAW][0]
            self.done(ASSIGN, *numbers, 1, 1)
            for at, edges in enumerate(CALLS[WITHDRAW][1]):
                for edge in edges:
                    self.done(ASSIGN, *with_one(numbers, at, edge), 1, 1)

    def test_the_edges_are_granted(self):
        for place in CALLS:
            numbers, ranges = CALLS[place]
            self.anew()
            for at in range(len(numbers)):
                for edge in ranges[at]:
                    self.prepare(place)
                    self.assertEqual(self.call(place, *with_one(numbers, at, edge))[0], 0, (place, at, edge))

    def test_beyond_the_edges_is_refused(self):
        for place in CALLS:
            numbers, ranges = CALLS[place]
            self.anew()
            self.prepare(place)
            for at in range(len(numbers)):
                for wrong in (ranges[at][0] - 1, ranges[at][1] + 1, -FARTHEST, FARTHEST):
                    # Of forge's number the farthest is granted.
                    if wrong != ranges[at][1]:
                        self.refused(-1, place, *with_one(numbers, at, wrong))
            self.assertEqual(self.call(place, *numbers)[0], 0)

    def test_the_relays_granted_grow_with_each_relay(self):
        self.done(BEGIN, 1, 1, 0)
        self.refused(-1, RELAY, 1, 0, 1)
        self.done(RELAY, 0, 0, 1)
        self.refused(-1, RELAY, 2, 0, 1)
        self.assertEqual(self.call(RELAY, 1, 0, 1), [0, 2])

    def test_the_servers_granted_are_those_of_the_world(self):
        for servers in (1, 2, 3, 4):
            self.done(BEGIN, servers, 1, 0)
            for place, rest in ((ASSIGN, (1, 0, 1, 1)), (WITHDRAW, (1, 0)), (REST, (1,)), (WRITTEN, (1,))):
                self.refused(-1, place, servers, *rest)
                self.assertEqual(self.call(place, servers - 1, *rest)[0], 0)
            self.done(PLUG, 1, 0, 0)
            self.done(ON, 1)
            self.done(FLOW, 1000)
            self.refused(-1, FORGE, 0, 0, 1, 1, 3, servers, 0, 0)
            self.assertEqual(self.call(FORGE, 0, 0, 1, 1, 3, servers - 1, 0, 0), [0])

    def test_the_places_granted_are_those_of_the_bag(self):
        self.done(BEGIN, 1, 3, 0)
        for host in (1, 2, 3):
            self.done(PLUG, host, 0, 0)
        for count in range(4):
            for place in (DELIVER, LOSE, DOUBLE, PEEK):
                for wrong in (-1, count, count + 1, FARTHEST, -FARTHEST):
                    self.refused(-1, place, wrong)
            if count > 0:
                self.assertEqual(len(self.done(PEEK, count - 1)), 11)
            if count < 3:
                self.done(ON, count + 1)


class RangeAheadOfOwnRefusalsTest(LineTest):
    def setUp(self):
        LineTest.setUp(self)
        self.done(BEGIN, 1, 1, LAST_TIME)
        self.done(RELAY, 0, 1, 16)
        self.done(PLUG, 5, 0, 2)

    def test_relay_on_a_taken_circuit(self):
        self.refused(-2, RELAY, 0, 1, 1)
        self.refused(-1, RELAY, 0, 1, 0)
        self.refused(-1, RELAY, 0, 2, 17)

    def test_plug_of_a_plugged_host(self):
        self.refused(-2, PLUG, 5, 0, 0)
        self.refused(-1, PLUG, 5, 2, 0)
        self.refused(-1, PLUG, 5, 0, 4096)

    def test_hosts_that_are_no_clients(self):
        for place in (UNPLUG, ON, OFF, FORGET):
            self.refused(-2, place, 6)
            self.refused(-1, place, -1)
            self.refused(-1, place, LAST_HOST + 1)

    def test_assign_when_all_rows_are_taken(self):
        for host in range(128):
            self.done(ASSIGN, 0, host, 0, 1, 1)
        self.refused(-2, ASSIGN, 0, 128, 0, 1, 1)
        self.refused(-1, ASSIGN, 0, 128, 0, 1, 0)

    def test_withdraw_of_what_is_not_assigned(self):
        self.refused(-2, WITHDRAW, 0, 1, 0)
        self.refused(-1, WITHDRAW, 0, 1, 2)

    def test_the_bag_when_it_is_full(self):
        self.refused(-1, DOUBLE, 0)
        self.done(ON, 5)
        self.refused(-3, DOUBLE, 0)
        self.refused(-1, DOUBLE, 1)
        self.refused(-1, DOUBLE, -1)

    def test_forge_with_each_of_its_own_refusals(self):
        self.done(ON, 5)
        self.refused(-2, FORGE, 0, 1, 6, 2, 1, -1, 0, 0)
        self.refused(-1, FORGE, 0, 1, 6, 2, 1, -1, 0, 17)
        self.refused(-1, FORGE, 0, 1, 6, 2, 6, -1, 0, 0)
        self.refused(-3, FORGE, 0, 3, 6, 2, 1, -1, 0, 0)
        self.refused(-1, FORGE, 0, 3, 6, 0, 1, -1, 0, 0)
        self.refused(-4, FORGE, 0, 3, 5, 1, 1, -1, 0, 0)
        self.refused(-1, FORGE, 0, 3, 5, 1, 1, -2, 0, 0)
        self.refused(-1, FORGE, 0, 3, 5, 1, 1, -1, 0, 0, 0)
        self.refused(-1, FORGE, 0, 3, 5, 1, 1, -1, 0, 0, 0, 4096)

    def test_client_of_a_host_that_is_none(self):
        self.refused(-2, CLIENT, 6)
        self.refused(-1, CLIENT, -1)
        self.refused(-1, CLIENT, LAST_HOST + 1)

    def test_tick_at_the_end_of_time(self):
        self.refused(-2, TICK, 1)
        self.refused(-2, TICK, 20000)
        self.refused(-1, TICK, 20001)
        self.refused(-1, TICK, -1)
