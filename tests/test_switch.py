"""on, off and forget (points 4 to 6)."""

from tests.helper import BEGIN, FORGET, OFF, ON, PLUG, TICK, UNPLUG, LineTest, shown

LEASE = (2, 77, 600, 800, 1000)


class SwitchTest(LineTest):
    def setUp(self):
        LineTest.setUp(self)
        self.done(BEGIN, 4, 10, 500)
        self.done(PLUG, 5, 0, 7)


class OnTest(SwitchTest):
    def test_it_seeks_without_a_lease(self):
        self.assertEqual(self.call(ON, 5), [0])
        self.assertEqual(shown(self.client(5)), {
            "host": 5, "plugged": (0, 7), "phase": 1, "counter": 1, "awaited": 1, "sent": 500, "tries": 0,
            "due": 504, "offer": None, "lease": None})
        self.assertEqual(self.bag(), [((0, 0, 7), 5, 1, 1, None, 0, 0, 0, ())])

    def test_it_acts_when_its_wait_is_over(self):
        self.done(ON, 5)
        self.assertEqual(self.call(TICK, 3), [0, 503, 0])
        self.assertEqual(self.call(TICK, 1), [0, 504, 1])

    def test_a_host_that_is_no_client(self):
        self.refused(-2, ON, 6)

    def test_a_client_that_is_on(self):
        self.done(ON, 5)
        self.refused(-3, ON, 5)

    def test_no_phase_but_0_is_granted(self):
        client = self.hand(5)
        client.lease = LEASE
        for phase in range(1, 7):
            client.phase = phase
            self.refused(-3, ON, 5)

    def test_plugged_nowhere_all_is_done_but_the_put(self):
        self.done(UNPLUG, 5)
        self.assertEqual(self.call(ON, 5), [0])
        self.assertEqual(shown(self.client(5)), {
            "host": 5, "plugged": None, "phase": 1, "counter": 1, "awaited": 1, "sent": 500, "tries": 0,
            "due": 504, "offer": None, "lease": None})
        self.assertEqual(self.bag(), [])

    def test_it_comes_back_with_a_lease_that_runs(self):
        self.hand(5).lease = (2, 77, 1, 2, 501)
        self.assertEqual(self.call(ON, 5), [0])
        self.assertEqual(shown(self.client(5)), {
            "host": 5, "plugged": (0, 7), "phase": 6, "counter": 1, "awaited": 1, "sent": 500, "tries": 0,
            "due": 504, "offer": None, "lease": (2, 77, 1, 2, 501)})
        self.assertEqual(self.bag(), [((0, 0, 7), 5, 1, 3, None, 77, 0, 0, ())])

    def test_it_seeks_with_a_lease_that_ends_now(self):
        self.hand(5).lease = (2, 77, 1, 2, 500)
        self.assertEqual(self.call(ON, 5), [0])
        self.assertEqual((self.client(5).phase, self.client(5).lease), (1, None))
        self.assertEqual(self.bag(), [((0, 0, 7), 5, 1, 1, None, 0, 0, 0, ())])


class OffTest(SwitchTest):
    def test_what_is_lost_and_what_stays(self):
        self.done(ON, 5)
        self.done(TICK, 4)
        client = self.hand(5)
        client.offer = (1, 2, 3)
        client.lease = LEASE
        self.assertEqual(self.call(OFF, 5), [0])
        self.assertEqual(shown(client), {
            "host": 5, "plugged": (0, 7), "phase": 0, "counter": 2, "awaited": 0, "sent": 0, "tries": 0,
            "due": None, "offer": None, "lease": LEASE})

    def test_the_bag_and_the_others_stay(self):
        self.done(PLUG, 6, 0, 7)
        self.done(ON, 5)
        self.done(ON, 6)
        before = shown(self.world)
        self.done(OFF, 5)
        after = shown(self.world)
        self.assertNotEqual(before["clients"].pop(5), after["clients"].pop(5))
        self.assertEqual(after, before)

    def test_it_acts_no_more(self):
        self.done(ON, 5)
        self.done(OFF, 5)
        self.assertEqual(self.call(TICK, 20000), [0, 20500, 0])

    def test_the_counter_goes_on_when_it_is_on_again(self):
        self.done(ON, 5)
        self.done(OFF, 5)
        self.done(ON, 5)
        self.assertEqual((self.client(5).counter, self.client(5).due), (2, 505))
        self.assertEqual(self.call(TICK, 4), [0, 504, 0])
        self.assertEqual(self.call(TICK, 1), [0, 505, 1])

    def test_every_other_phase_is_granted(self):
        for phase in range(1, 7):
            client = self.hand(5)
            client.phase = phase
            self.assertEqual(self.call(OFF, 5), [0])
            self.assertEqual(client.phase, 0)

    def test_a_host_that_is_no_client(self):
        self.refused(-2, OFF, 6)

    def test_a_client_that_is_off(self):
        self.refused(-3, OFF, 5)
        self.done(ON, 5)
        self.done(OFF, 5)
        self.refused(-3, OFF, 5)


class ForgetTest(SwitchTest):
    def test_the_lease_alone_is_lost(self):
        self.hand(5).lease = LEASE
        before = shown(self.world)
        self.assertEqual(self.call(FORGET, 5), [0])
        before["clients"][5]["lease"] = None
        self.assertEqual(shown(self.world), before)

    def test_without_a_lease(self):
        self.assertEqual(self.call(FORGET, 5), [0])
        self.assertIsNone(self.client(5).lease)

    def test_it_seeks_afterwards(self):
        self.hand(5).lease = LEASE
        self.done(FORGET, 5)
        self.done(ON, 5)
        self.assertEqual(self.client(5).phase, 1)

    def test_a_host_that_is_no_client(self):
        self.refused(-2, FORGET, 6)

    def test_a_client_that_is_on(self):
        self.done(ON, 5)
        self.refused(-3, FORGET, 5)

    def test_no_phase_but_0_is_granted(self):
        client = self.hand(5)
        client.lease = LEASE
        for phase in range(1, 7):
            client.phase = phase
            self.refused(-3, FORGET, 5)
