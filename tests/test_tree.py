"""relay, plug and unplug (points 1 to 3)."""

from tests.helper import (ASSIGN, BEGIN, FORGET, LAST_CIRCUIT, LAST_HOST, OFF, ON, PLUG, RELAY, TICK, UNPLUG, LineTest,
                          shown)


class RelayTest(LineTest):
    def setUp(self):
        LineTest.setUp(self)
        self.done(BEGIN, 1, 10, 0)

    def test_a_tree_of_relays(self):
        self.assertEqual(self.call(RELAY, 0, 7, 1), [0, 1])
        self.assertEqual(self.call(RELAY, 1, 7, 16), [0, 2])
        self.assertEqual(self.call(RELAY, 0, 8, 3), [0, 3])
        self.assertEqual(shown(self.world.relays), [
            {"parent": None, "circuit": None, "limit": 16}, {"parent": 0, "circuit": 7, "limit": 1},
            {"parent": 1, "circuit": 7, "limit": 16}, {"parent": 0, "circuit": 8, "limit": 3}])
        self.assertEqual(self.world.hung, {(0, 7): 1, (1, 7): 2, (0, 8): 3})

    def test_an_inner_circuit(self):
        self.done(RELAY, 0, 7, 1)
        self.refused(-2, RELAY, 0, 7, 1)
        self.done(RELAY, 1, 7, 1)
        self.refused(-2, RELAY, 1, 7, 2)

    def test_a_circuit_where_a_client_is_plugged(self):
        self.done(PLUG, 5, 0, 7)
        self.done(PLUG, 6, 0, 7)
        self.refused(-2, RELAY, 0, 7, 1)
        self.done(UNPLUG, 5)
        self.refused(-2, RELAY, 0, 7, 1)
        self.done(UNPLUG, 6)
        self.assertEqual(self.call(RELAY, 0, 7, 1), [0, 1])

    def test_a_client_plugged_elsewhere_is_no_hindrance(self):
        self.done(RELAY, 0, 1, 1)
        self.done(PLUG, 5, 1, 7)
        self.done(PLUG, 6, 0, 8)
        self.assertEqual(self.call(RELAY, 0, 7, 1), [0, 2])
        self.assertEqual(self.call(RELAY, 1, 8, 1), [0, 3])

    def test_no_more_than_64_relays(self):
        for number in range(1, 64):
            self.assertEqual(self.call(RELAY, number - 1, 0, 1), [0, number])
        self.refused(-3, RELAY, 63, 0, 1)
        self.refused(-3, RELAY, 0, 1, 1)

    def test_a_bag_that_is_not_empty(self):
        self.done(PLUG, 5, 0, 7)
        self.done(ON, 5)
        self.refused(-4, RELAY, 0, 8, 1)
        self.done(OFF, 5)
        self.refused(-4, RELAY, 0, 8, 1)

    def test_a_client_plugged_nowhere_puts_nothing_into_the_bag(self):
        self.done(PLUG, 5, 0, 7)
        self.done(UNPLUG, 5)
        self.done(ON, 5)
        self.done(TICK, 1000)
        self.assertEqual(self.call(RELAY, 0, 8, 1), [0, 1])

    def test_refusals_in_their_order(self):
        for number in range(1, 63):
            self.done(RELAY, 0, number, 1)
        self.done(PLUG, 5, 0, 100)
        self.done(PLUG, 6, 0, 101)
        self.done(RELAY, 0, 63, 1)
        self.refused(-2, RELAY, 0, 63, 1)
        self.refused(-2, RELAY, 0, 100, 1)
        self.refused(-3, RELAY, 0, 64, 1)
        self.done(ON, 5)
        self.refused(-2, RELAY, 0, 63, 1)
        self.refused(-2, RELAY, 0, 101, 1)
        self.refused(-3, RELAY, 0, 64, 1)

    def test_a_taken_circuit_ahead_of_the_bag(self):
        self.done(RELAY, 0, 1, 1)
        self.done(PLUG, 5, 0, 7)
        self.done(ON, 5)
        self.refused(-2, RELAY, 0, 1, 1)
        self.refused(-2, RELAY, 0, 7, 1)
        self.refused(-4, RELAY, 0, 2, 1)


class PlugTest(LineTest):
    def setUp(self):
        LineTest.setUp(self)
        self.done(BEGIN, 1, 10, 50)
        self.done(RELAY, 0, 1, 16)

    def test_a_new_client_is_off_with_nothing_but_its_place(self):
        self.assertEqual(self.call(PLUG, 5, 1, LAST_CIRCUIT), [0])
        self.assertEqual(shown(self.client(5)), {
            "host": 5, "plugged": (1, LAST_CIRCUIT), "phase": 0, "counter": 0, "awaited": 0, "sent": 0, "tries": 0,
            "due": None, "offer": None, "lease": None})
        self.assertEqual(self.call(TICK, 20000), [0, 20050, 0])

    def test_several_clients_at_one_circuit(self):
        for host in (0, 9, LAST_HOST):
            self.assertEqual(self.call(PLUG, host, 0, 7), [0])
        self.assertEqual([self.client(host).plugged for host in (0, 9, LAST_HOST)], [(0, 7)] * 3)

    def test_a_host_that_is_plugged(self):
        self.done(PLUG, 5, 0, 7)
        self.refused(-2, PLUG, 5, 0, 7)
        self.refused(-2, PLUG, 5, 1, 8)

    def test_an_inner_circuit(self):
        self.refused(-3, PLUG, 5, 0, 1)
        self.assertEqual(self.call(PLUG, 5, 1, 1), [0])
        self.done(UNPLUG, 5)
        self.refused(-3, PLUG, 5, 0, 1)

    def test_no_more_than_64_clients(self):
        for host in range(64):
            self.done(PLUG, host, 0, 7)
        self.refused(-4, PLUG, 64, 0, 7)
        self.done(UNPLUG, 63)
        self.refused(-4, PLUG, 64, 0, 7)
        self.assertEqual(self.call(PLUG, 63, 1, 7), [0])

    def test_refusals_in_their_order(self):
        for host in range(64):
            self.done(PLUG, host, 0, 7)
        self.refused(-2, PLUG, 5, 0, 1)
        self.refused(-3, PLUG, 64, 0, 1)
        self.refused(-4, PLUG, 64, 0, 2)

    def test_plugged_again_elsewhere(self):
        self.done(PLUG, 5, 0, 7)
        self.done(ON, 5)
        self.done(UNPLUG, 5)
        before = shown(self.client(5))
        self.assertEqual(self.call(PLUG, 5, 1, 8), [0])
        before["plugged"] = (1, 8)
        self.assertEqual(shown(self.client(5)), before)
        self.assertEqual(self.call(TICK, 4), [0, 54, 1])
        self.assertEqual([message[0] for message in self.bag()], [(0, 0, 7), (0, 1, 8)])


class UnplugTest(LineTest):
    def setUp(self):
        LineTest.setUp(self)
        self.done(BEGIN, 1, 10, 50)

    def test_a_host_that_is_no_client(self):
        self.done(PLUG, 5, 0, 7)
        self.done(ASSIGN, 0, 6, 0, 1, 1)
        self.refused(-2, UNPLUG, 6)

    def test_a_client_that_is_plugged_nowhere(self):
        self.done(PLUG, 5, 0, 7)
        self.assertEqual(self.call(UNPLUG, 5), [0])
        self.refused(-2, UNPLUG, 5)

    def test_nothing_but_the_place_is_changed(self):
        self.done(PLUG, 5, 0, 7)
        self.done(PLUG, 6, 0, 7)
        self.done(ON, 5)
        before = shown(self.world)
        self.done(UNPLUG, 5)
        before["clients"][5]["plugged"] = None
        self.assertEqual(shown(self.world), before)

    def test_it_is_still_a_client(self):
        self.done(PLUG, 5, 0, 7)
        self.done(UNPLUG, 5)
        self.assertEqual(self.call(FORGET, 5), [0])
        self.assertEqual(self.call(ON, 5), [0])
        self.assertEqual(self.call(OFF, 5), [0])
