"""client, written, path, next and state (points 16, 17 and 19 to 21)."""

from tests.helper import (ASKING, ASSIGN, BEGIN, CLIENT, FLOW, FORGE, FORGET, LAST_ADDRESS, LAST_CIRCUIT, LAST_HOST,
                          LAST_TIME, LOSE, NEXT, OFF, ON, PATH, PLUG, RELAY, STATE, TICK, UNPLUG, WITHDRAW, WRITTEN,
                          LineTest, shown)

NO_OFFER = [-1, 0, 0]
NO_LEASE = [-1, 0, 0, 0, 0]


class ClientTest(LineTest):
    def setUp(self):
        LineTest.setUp(self)
        self.done(BEGIN, 2, 10, 1000)
        self.done(RELAY, 0, 11, 16)

    def test_a_new_client(self):
        self.done(PLUG, LAST_HOST, 1, LAST_CIRCUIT)
        self.assertEqual(self.call(CLIENT, LAST_HOST),
                         [0, 0, 0, 0, 0, 0, -1, 1, LAST_CIRCUIT] + NO_OFFER + NO_LEASE)

    def test_each_of_its_numbers(self):
        self.done(PLUG, 5, 1, 7)
        it = self.hand(5)
        it.phase, it.counter, it.awaited, it.sent, it.tries, it.due = 1, 2, 3, 4, 5, 6
        it.offer, it.lease = (9, 10, 11), (12, 13, 14, 15, 16)
        it.plugged = (7, 8)
        self.assertEqual(self.call(CLIENT, 5), list(range(17)))

    def test_seeking_plugged_nowhere(self):
        self.done(PLUG, 5, 1, 7)
        self.done(ON, 5)
        self.done(UNPLUG, 5)
        self.assertEqual(self.call(CLIENT, 5), [0, 1, 1, 1, 1000, 0, 1004, -1, -1] + NO_OFFER + NO_LEASE)

    def test_with_an_offer_of_server_0_and_address_0(self):
        self.done(PLUG, 5, 1, 7)
        self.done(ASSIGN, 0, 5, 1, 0, 300)
        self.done(ON, 5)
        self.done(FLOW, 100)
        self.assertEqual(self.call(CLIENT, 5), [0, 1, 1, 1, 1000, 0, 1004, 1, 7, 0, 0, 300] + NO_LEASE)

    def test_with_a_lease_on_and_off_and_forgotten(self):
        self.done(PLUG, 5, 1, 7)
        self.done(ASSIGN, 1, 5, 1, 44, 300)
        self.done(ON, 5)
        self.done(FLOW, 100)
        self.done(TICK, 4)
        self.done(FLOW, 100)
        lease = [1, 44, 1154, 1266, 1304]
        self.assertEqual(self.call(CLIENT, 5), [0, 3, 2, 0, 1004, 0, 1154, 1, 7] + NO_OFFER + lease)
        self.done(OFF, 5)
        self.assertEqual(self.call(CLIENT, 5), [0, 0, 2, 0, 0, 0, -1, 1, 7] + NO_OFFER + lease)
        self.done(FORGET, 5)
        self.assertEqual(self.call(CLIENT, 5), [0, 0, 2, 0, 0, 0, -1, 1, 7] + NO_OFFER + NO_LEASE)

    def test_a_host_that_is_no_client(self):
        self.done(PLUG, 5, 1, 7)
        self.done(ASSIGN, 1, 6, 1, 44, 300)
        self.refused(-2, CLIENT, 6)
        self.refused(-2, CLIENT, 4)


class WrittenTest(LineTest):
    def setUp(self):
        LineTest.setUp(self)
        self.done(BEGIN, 2, 10, 1000)
        for host in (5, 6):
            self.done(PLUG, host, 0, 7)
            self.done(ON, host)
            self.done(OFF, host)
        self.done(FLOW, 100)

    def write(self, server, host, address, length):
        self.done(ASSIGN, server, host, 0, address, length)
        self.done(FORGE, 0, 7, host, 1, ASKING, server, address, 0)
        self.done(FLOW, 100)

    def test_nothing(self):
        self.done(ASSIGN, 0, 5, 0, 44, 300)
        self.assertEqual(self.call(WRITTEN, 0, 5), [0, 0])
        self.assertEqual(self.call(WRITTEN, 1, LAST_HOST), [0, 0])

    def test_rows_in_the_order_of_addresses(self):
        for address, length in ((300, 4), (20, 3), (LAST_ADDRESS, 2), (0, 1), (1000, 9)):
            self.write(1, 5, address, length)
        self.assertEqual(self.call(WRITTEN, 1, 5),
                         [0, 5, 0, 1001, 20, 1003, 300, 1004, 1000, 1009, LAST_ADDRESS, 1002])

    def test_of_that_server_and_host_alone(self):
        self.write(0, 5, 44, 1)
        self.write(1, 5, 44, 2)
        self.write(0, 6, 44, 3)
        self.write(0, 6, 43, 4)
        self.assertEqual(self.call(WRITTEN, 0, 5), [0, 1, 44, 1001])
        self.assertEqual(self.call(WRITTEN, 1, 5), [0, 1, 44, 1002])
        self.assertEqual(self.call(WRITTEN, 0, 6), [0, 2, 43, 1004, 44, 1003])
        self.assertEqual(self.call(WRITTEN, 1, 6), [0, 0])

    def test_it_stays_when_withdrawn_and_when_time_is_over(self):
        self.write(1, 5, 44, 2)
        self.done(WITHDRAW, 1, 5, 0)
        self.done(TICK, 20000)
        self.assertEqual(self.call(WRITTEN, 1, 5), [0, 1, 44, 1002])

    def test_a_row_is_not_written_twice(self):
        self.write(1, 5, 44, 2)
        self.write(1, 5, 44, 3)
        self.assertEqual(self.call(WRITTEN, 1, 5), [0, 1, 44, 1003])

    def test_nothing_is_changed(self):
        self.write(1, 5, 44, 2)
        before = shown(self.world)
        self.done(WRITTEN, 1, 5)
        self.assertEqual(shown(self.world), before)


class PathTest(LineTest):
    def setUp(self):
        LineTest.setUp(self)
        self.done(BEGIN, 1, 10, 0)

    def test_relay_0(self):
        for circuit in (0, 7, LAST_CIRCUIT):
            self.assertEqual(self.call(PATH, 0, circuit), [0, 1, 0, circuit])

    def test_relays_some_deep(self):
        for parent, circuit in ((0, 11), (1, 12), (1, 13), (0, 14), (3, 0)):
            self.done(RELAY, parent, circuit, 16)
        self.assertEqual(self.call(PATH, 1, 7), [0, 2, 0, 11, 1, 7])
        self.assertEqual(self.call(PATH, 2, 7), [0, 3, 0, 11, 1, 12, 2, 7])
        self.assertEqual(self.call(PATH, 3, 7), [0, 3, 0, 11, 1, 13, 3, 7])
        self.assertEqual(self.call(PATH, 4, 7), [0, 2, 0, 14, 4, 7])
        self.assertEqual(self.call(PATH, 5, LAST_CIRCUIT), [0, 4, 0, 11, 1, 13, 3, 0, 5, LAST_CIRCUIT])

    def test_an_inner_circuit_is_told_as_any_other(self):
        self.done(RELAY, 0, 11, 16)
        self.done(RELAY, 1, 12, 16)
        self.assertEqual(self.call(PATH, 0, 11), [0, 1, 0, 11])
        self.assertEqual(self.call(PATH, 1, 12), [0, 2, 0, 11, 1, 12])

    def test_limits_are_of_no_account(self):
        marks = []
        for parent in range(63):
            self.done(RELAY, parent, 100 + parent, 1)
            marks += [parent, 100 + parent]
        self.assertEqual(self.call(PATH, 63, 7), [0, 64] + marks + [63, 7])

    def test_nothing_is_changed(self):
        self.done(RELAY, 0, 11, 16)
        before = shown(self.world)
        self.done(PATH, 1, 7)
        self.assertEqual(shown(self.world), before)


class NextTest(LineTest):
    def test_without_dues(self):
        self.done(BEGIN, 1, 10, 0)
        self.assertEqual(self.call(NEXT), [0, -1])
        self.done(PLUG, 5, 0, 7)
        self.assertEqual(self.call(NEXT), [0, -1])
        self.done(ON, 5)
        self.done(OFF, 5)
        self.assertEqual(self.call(NEXT), [0, -1])

    def test_the_earliest_of_several(self):
        self.done(BEGIN, 1, 10, 0)
        for host in (1, 2, 3, 4):
            self.done(PLUG, host, 0, 7)
        self.done(TICK, 10)
        self.done(ON, 3)
        self.assertEqual(self.call(NEXT), [0, 14])
        self.done(TICK, 1)
        self.done(ON, 1)
        self.done(ON, 4)
        self.assertEqual(self.call(NEXT), [0, 14])
        self.done(OFF, 3)
        self.assertEqual(self.call(NEXT), [0, 15])
        self.done(OFF, 1)
        self.assertEqual(self.call(NEXT), [0, 15])
        self.done(OFF, 4)
        self.assertEqual(self.call(NEXT), [0, -1])

    def test_of_a_client_that_is_plugged_nowhere(self):
        self.done(BEGIN, 1, 10, 0)
        self.done(PLUG, 5, 0, 7)
        self.done(UNPLUG, 5)
        self.done(ON, 5)
        self.assertEqual(self.call(NEXT), [0, 4])

    def test_to_tick_to_it_lets_a_client_act_once(self):
        self.done(BEGIN, 1, 10, 0)
        self.done(PLUG, 5, 0, 7)
        self.done(ON, 5)
        now = 0
        for step in range(20):
            due = self.call(NEXT)[1]
            self.assertEqual(self.call(TICK, due - now), [0, due, 1])
            now = due

    def test_beyond_the_end_of_time(self):
        self.done(BEGIN, 1, 10, LAST_TIME)
        self.done(PLUG, 5, 0, 7)
        self.done(ON, 5)
        self.assertEqual(self.call(NEXT), [0, LAST_TIME + 4])


class StateTest(LineTest):
    def test_with_nothing(self):
        self.done(BEGIN, 4, 10, 77)
        self.assertEqual(self.call(STATE), [0, 77, 0, 1, 0])

    def test_each_of_its_numbers(self):
        self.done(BEGIN, 2, 10, 77)
        self.done(TICK, 3)
        self.assertEqual(self.call(STATE), [0, 80, 0, 1, 0])
        self.done(RELAY, 0, 11, 16)
        self.done(RELAY, 1, 11, 16)
        self.assertEqual(self.call(STATE), [0, 80, 0, 3, 0])
        for host in (5, 6, 7):
            self.done(PLUG, host, 2, 7)
        self.assertEqual(self.call(STATE), [0, 80, 0, 3, 3])
        for host in (5, 6):
            self.done(ON, host)
        self.assertEqual(self.call(STATE), [0, 80, 2, 3, 3])
        self.done(UNPLUG, 5)
        self.done(OFF, 6)
        self.assertEqual(self.call(STATE), [0, 80, 2, 3, 3])
        self.done(LOSE, 0)
        self.assertEqual(self.call(STATE), [0, 80, 1, 3, 3])

    def test_a_full_bag(self):
        self.done(BEGIN, 2, 2, 0)
        for host in (5, 6, 7):
            self.done(PLUG, host, 0, 7)
            self.done(ON, host)
        self.assertEqual(self.call(STATE), [0, 0, 2, 1, 3])

    def test_nothing_is_changed(self):
        self.done(BEGIN, 2, 2, 0)
        self.done(PLUG, 5, 0, 7)
        self.done(ON, 5)
        before = shown(self.world)
        self.done(STATE)
        self.done(NEXT)
        self.done(CLIENT, 5)
        self.assertEqual(shown(self.world), before)
