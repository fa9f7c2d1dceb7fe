"""What relays do with messages: up, down and out."""

from tests.helper import (ASKING, AT_SERVER, BEGIN, DELIVER, DOWN, FLOW, FORGE, LAST_CIRCUIT, NO, OFFER, ON, OUT, PATH,
                          PLUG, RELAY, SEEKING, STATE, UNPLUG, UP, YES, LineTest, shown, told)


class UpTest(LineTest):
    def test_relay_0_puts_a_copy_at_each_server_in_order(self):
        for servers in (1, 2, 3, 4):
            self.done(BEGIN, servers, 10, 50)
            self.done(PLUG, 5, 0, 7)
            self.done(ON, 5)
            self.assertEqual(self.delivered(), [
                told((AT_SERVER, server, 0), 5, 1, SEEKING, hops=1, marks=((0, 7),)) for server in range(servers)])
            self.assertEqual(self.call(STATE), [0, 50, servers, 1, 1])

    def test_another_relay_puts_it_up_at_its_parent_by_the_circuit_on_which_it_hangs(self):
        self.done(BEGIN, 1, 10, 50)
        self.done(RELAY, 0, 11, 16)
        self.done(RELAY, 1, 12, 16)
        self.done(RELAY, 1, 13, 16)
        self.done(PLUG, 5, 3, LAST_CIRCUIT)
        self.done(ON, 5)
        self.assertEqual(self.delivered(), [told((UP, 1, 13), 5, 1, SEEKING, hops=1, marks=((3, LAST_CIRCUIT),))])
        self.assertEqual(self.delivered(), [
            told((UP, 0, 11), 5, 1, SEEKING, hops=2, marks=((1, 13), (3, LAST_CIRCUIT)))])
        self.assertEqual(self.delivered(), [
            told((AT_SERVER, 0, 0), 5, 1, SEEKING, hops=3, marks=((0, 11), (1, 13), (3, LAST_CIRCUIT)))])

    def test_server_and_address_stay(self):
        self.done(BEGIN, 2, 10, 50)
        self.done(RELAY, 0, 11, 16)
        self.done(PLUG, 5, 1, 7)
        self.done(ON, 5)
        self.done(FLOW, 100)
        self.done(FORGE, 1, 7, 5, 1, ASKING, 1, 99, 0)
        self.assertEqual(self.delivered(), [told((UP, 0, 11), 5, 1, ASKING, 1, 99, hops=1, marks=((1, 7),))])
        self.assertEqual(self.delivered(), [
            told((AT_SERVER, server, 0), 5, 1, ASKING, 1, 99, hops=2, marks=((0, 11), (1, 7))) for server in (0, 1)])

    def test_an_outer_circuit_with_hops_or_marks(self):
        self.done(BEGIN, 1, 10, 50)
        self.done(RELAY, 0, 11, 16)
        self.done(PLUG, 5, 1, 7)
        self.done(ON, 5)
        self.done(FLOW, 100)
        # hops and marks, at relay 0 and another one
        for relay in (0, 1):
            for further in ((1,), (16,), (0, 0, 7), (0, 1, 7), (0, 0, 11), (1, 1, 7), (2, 0, 11, 1, 7)):
                self.done(FORGE, relay, 7, 5, 1, SEEKING, -1, 0, *further)
                self.assertEqual(self.delivered(), [], further)
            self.done(FORGE, relay, 7, 5, 1, SEEKING, -1, 0, 0)
            self.assertEqual(len(self.delivered()), 1)
            self.done(FLOW, 100)

    def test_an_inner_circuit_with_hops_and_marks_or_without(self):
        self.done(BEGIN, 1, 10, 50)
        self.done(RELAY, 0, 11, 16)
        for hops, marks in ((0, ()), (1, ()), (0, ((1, 7),)), (1, ((1, 7),)), (15, ((9, 9),) * 15)):
            self.lay((UP, 0, 11), 5, 1, SEEKING, hops=hops, marks=marks)
            self.assertEqual(self.delivered(), [
                told((AT_SERVER, 0, 0), 5, 1, SEEKING, hops=hops + 1, marks=((0, 11),) + marks)])
            self.done(FLOW, 100)

    def test_hops_at_the_limit_and_one_below_it(self):
        for limit in (1, 2, 3, 15, 16):
            self.done(BEGIN, 1, 10, 50)
            self.done(RELAY, 0, 11, limit)
            self.done(RELAY, 1, 12, 16)
            marks = ((2, 7),)
            for hops, handed in ((limit - 1, 1), (limit, 0), (limit + 1, 0)):
                self.lay((UP, 1, 12), 5, 1, SEEKING, hops=hops, marks=marks)
                put = self.delivered()
                self.assertEqual(len(put), handed, (limit, hops))
                if handed:
                    self.assertEqual(put, [told((UP, 0, 11), 5, 1, SEEKING, hops=limit, marks=((1, 12),) + marks)])
                self.done(FLOW, 100)

    def test_a_limit_of_1_takes_what_comes_in_from_outside_alone(self):
        self.done(BEGIN, 1, 10, 50)
        self.done(RELAY, 0, 11, 1)
        self.done(RELAY, 1, 12, 1)
        self.done(PLUG, 5, 1, 7)
        self.done(PLUG, 6, 2, 7)
        self.done(ON, 5)
        self.assertEqual(len(self.delivered()), 1)
        self.assertEqual(len(self.delivered()), 1)
        self.done(FLOW, 100)
        self.done(ON, 6)
        self.assertEqual(len(self.delivered()), 1)
        self.assertEqual(self.delivered(), [])
        self.assertEqual(self.call(STATE)[2], 0)

    def test_sixteen_relays_reach_the_servers_and_seventeen_do_not(self):
        self.done(BEGIN, 1, 10, 0)
        for parent in range(16):
            self.done(RELAY, parent, 3, 16)
        self.done(PLUG, 5, 15, 7)
        self.done(ON, 5)
        self.assertEqual(self.call(FLOW, 15), [0, 15])
        marks = tuple((relay, 3) for relay in range(15)) + ((15, 7),)
        self.assertEqual(self.delivered(), [told((AT_SERVER, 0, 0), 5, 1, SEEKING, hops=16, marks=marks)])
        self.done(FLOW, 100)
        self.done(PLUG, 6, 16, 7)
        self.done(ON, 6)
        self.assertEqual(self.call(FLOW, 16), [0, 16])
        self.assertEqual(self.peeked()[0][:3], [UP, 0, 3])
        self.assertEqual(self.peeked()[0][9], 16)
        self.assertEqual(self.delivered(), [])

    def test_a_full_bag_takes_some_of_the_copies_alone(self):
        for cap, copies in ((2, 1), (3, 2), (4, 3), (5, 4), (6, 4)):
            self.done(BEGIN, 4, cap, 0)
            for host in (5, 6):
                self.done(PLUG, host, 0, 7)
                self.done(ON, host)
            self.assertEqual(self.delivered(0), [
                told((AT_SERVER, server, 0), 5, 1, SEEKING, hops=1, marks=((0, 7),)) for server in range(copies)])
            self.assertEqual(self.call(STATE)[2], 1 + copies)

    def test_a_bag_for_one_takes_the_copy_at_server_0(self):
        self.done(BEGIN, 4, 1, 0)
        self.done(PLUG, 5, 0, 7)
        self.done(ON, 5)
        self.assertEqual(self.delivered(), [told((AT_SERVER, 0, 0), 5, 1, SEEKING, hops=1, marks=((0, 7),))])

    def test_what_comes_in_is_marked_as_path_tells(self):
        self.done(BEGIN, 1, 10, 0)
        for parent, circuit in ((0, 4), (0, 5), (2, 6), (3, 4), (1, 9)):
            self.done(RELAY, parent, circuit, 16)
        self.done(PLUG, 5, 0, 77)
        self.done(ON, 5)
        self.done(FLOW, 100)
        for relay in range(6):
            self.done(FORGE, relay, 77, 5, 1, SEEKING, -1, 0, 0)
            while self.peeked()[0][0] == UP:
                self.done(DELIVER, 0)
            self.assertEqual(self.peeked()[0][10:], self.done(PATH, relay, 77))
            self.done(FLOW, 100)


class DownTest(LineTest):
    def setUp(self):
        LineTest.setUp(self)
        self.done(BEGIN, 1, 10, 0)
        self.done(RELAY, 0, 11, 1)
        self.done(RELAY, 1, 12, 1)
        self.done(RELAY, 1, 13, 1)

    def test_no_marks(self):
        for relay in (0, 1, 2):
            self.lay((DOWN, relay, 0), 5, 1, OFFER, 0, 99, 10)
            self.assertEqual(self.delivered(), [])
            self.assertEqual(self.world.bag, [])

    def test_a_latest_mark_of_another_relay(self):
        for relay, marks in ((0, ((1, 11),)), (1, ((0, 12), (1, 7))), (2, ((3, 7),)), (1, ((63, 12),))):
            self.lay((DOWN, relay, 0), 5, 1, OFFER, 0, 99, 10, marks=marks)
            self.assertEqual(self.delivered(), [])

    def test_an_inner_circuit(self):
        for relay, circuit, child in ((0, 11, 1), (1, 12, 2), (1, 13, 3)):
            rest = ((child, 7), (9, 9))
            self.lay((DOWN, relay, 0), 5, 1, OFFER, 0, 99, 10, marks=((relay, circuit),) + rest)
            self.assertEqual(self.delivered(), [told((DOWN, child, 0), 5, 1, OFFER, 0, 99, 10, marks=rest)])
            self.done(FLOW, 1)
            self.world.bag.clear()

    def test_an_inner_circuit_with_no_mark_behind_it(self):
        self.lay((DOWN, 0, 0), 5, 1, YES, 0, 99, 10, marks=((0, 11),))
        self.assertEqual(self.delivered(), [told((DOWN, 1, 0), 5, 1, YES, 0, 99, 10)])
        self.assertEqual(self.delivered(), [])

    def test_an_outer_circuit(self):
        for relay, circuit in ((0, 12), (1, 11), (2, 0), (3, LAST_CIRCUIT)):
            for rest in ((), ((9, 9),)):
                self.lay((DOWN, relay, 0), 5, 1, NO, 0, marks=((relay, circuit),) + rest)
                self.assertEqual(self.delivered(), [told((OUT, relay, circuit), 5, 1, NO, 0, marks=rest)])
                self.world.bag.clear()

    def test_the_limit_is_of_no_account_and_hops_stay(self):
        self.lay((DOWN, 1, 0), 5, 1, YES, 0, 99, 10, hops=4, marks=((1, 12), (2, 7)))
        self.assertEqual(self.delivered(), [told((DOWN, 2, 0), 5, 1, YES, 0, 99, 10, 4, ((2, 7),))])
        self.assertEqual(self.delivered(), [told((OUT, 2, 7), 5, 1, YES, 0, 99, 10, 4)])


class OutTest(LineTest):
    def setUp(self):
        LineTest.setUp(self)
        self.done(BEGIN, 1, 10, 0)
        self.done(RELAY, 0, 11, 16)
        self.done(PLUG, 5, 1, 7)
        self.done(PLUG, 6, 1, 7)
        for host in (5, 6):
            self.done(ON, host)
        self.done(FLOW, 100)

    def is_not_heard(self, place, host):
        """An offer that is put out there changes nothing but that it leaves the bag."""
        before = shown(self.world)
        self.lay(place, host, 1, OFFER, 0, 99, 10)
        self.assertEqual(self.delivered(), [])
        self.assertEqual(shown(self.world), before)

    def test_a_client_that_is_plugged_there_hears_it(self):
        self.lay((OUT, 1, 7), 5, 1, OFFER, 0, 99, 10)
        self.assertEqual(self.delivered(), [])
        self.assertEqual(self.client(5).offer, (0, 99, 10))
        self.assertIsNone(self.client(6).offer)
        self.assertEqual(self.world.bag, [])

    def test_a_host_that_is_no_client(self):
        self.is_not_heard((OUT, 1, 7), 4)

    def test_a_client_that_is_plugged_elsewhere(self):
        for place in ((OUT, 0, 7), (OUT, 1, 8), (OUT, 1, 0)):
            self.is_not_heard(place, 5)

    def test_a_client_that_was_plugged_elsewhere_meanwhile(self):
        self.done(UNPLUG, 5)
        self.done(PLUG, 5, 1, 8)
        self.is_not_heard((OUT, 1, 7), 5)

    def test_a_client_that_is_plugged_nowhere(self):
        self.done(UNPLUG, 5)
        self.is_not_heard((OUT, 1, 7), 5)
