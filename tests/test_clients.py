"""What clients do in the phases that need an offer or a lease, which the tests lay into their hands."""

from relayleases.clients import wait_of
from relayleases.parts import Client
from tests.helper import BEGIN, PLUG, TICK, UNPLUG, LineTest

OFFER = (3, 55, 900)
# server, address, half, late, end
LEASE = (2, 77, 1500, 1875, 2000)


class WaitTest(LineTest):
    def test_every_count_of_tries(self):
        client = Client(5)
        for tries in range(11):
            for counter in range(1, 8):
                client.tries = tries
                client.counter = counter
                self.assertEqual(wait_of(client), min(64, 4 * 2 ** tries) - 1 + counter % 3)


class ActTest(LineTest):
    def setUp(self):
        LineTest.setUp(self)
        self.done(BEGIN, 4, 10, 1000)
        self.done(PLUG, 5, 0, 7)
        self.it = self.hand(5)
        self.it.counter = 20
        self.it.awaited = 20
        self.it.sent = 990

    def acts_at(self, due):
        """Let time go on to the due, at which the client acts once."""
        self.it.due = due
        self.assertEqual(self.call(TICK, due - self.world.now), [0, due, 1])

    def sees(self, phase, tries, due):
        self.assertEqual((self.it.phase, self.it.tries, self.it.due), (phase, tries, due))

    def sent(self, kind, server, address):
        """One message was sent, at now, and the client waits for its number."""
        self.assertEqual((self.it.counter, self.it.awaited, self.it.sent), (21, 21, self.world.now))
        self.assertEqual(self.bag(), [((0, 0, 7), 5, 21, kind, server, address, 0, 0, ())])

    def test_seeking_with_an_offer_it_asks(self):
        self.it.phase, self.it.tries, self.it.offer = 1, 6, OFFER
        self.acts_at(1005)
        self.sees(2, 0, 1005 + 3)
        self.sent(3, 3, 55)
        self.assertEqual((self.it.offer, self.it.lease), (OFFER, None))

    def test_seeking_without_an_offer_it_seeks_with_one_try_more(self):
        for tries, next_tries, wait in ((0, 1, 7), (3, 4, 63), (9, 10, 63), (10, 10, 63)):
            self.setUp()
            self.it.phase, self.it.tries = 1, tries
            self.acts_at(1005)
            self.sees(1, next_tries, 1005 + wait)
            self.sent(1, None, 0)

    def test_asking_it_asks_with_one_try_more(self):
        for tries, wait in ((0, 7), (1, 15), (2, 31)):
            self.setUp()
            self.it.phase, self.it.tries, self.it.offer = 2, tries, OFFER
            self.acts_at(1005)
            self.sees(2, tries + 1, 1005 + wait)
            self.sent(3, 3, 55)
            self.assertEqual(self.it.offer, OFFER)

    def test_asking_for_the_last_time_it_seeks(self):
        self.it.phase, self.it.tries, self.it.offer = 2, 3, OFFER
        self.acts_at(1005)
        self.sees(1, 0, 1005 + 3)
        self.sent(1, None, 0)
        self.assertIsNone(self.it.offer)

    def test_coming_back_it_does_so_with_one_try_more(self):
        for tries, wait in ((0, 7), (1, 15)):
            self.setUp()
            self.it.phase, self.it.tries, self.it.lease = 6, tries, LEASE
            self.acts_at(1005)
            self.sees(6, tries + 1, 1005 + wait)
            self.sent(3, None, 77)
            self.assertEqual(self.it.lease, LEASE)

    def test_coming_back_beyond_the_end_it_does_so_still(self):
        self.it.phase, self.it.tries, self.it.lease = 6, 1, (2, 77, 10, 20, 1001)
        self.acts_at(1005)
        self.sees(6, 2, 1005 + 15)
        self.sent(3, None, 77)

    def test_coming_back_for_the_last_time_it_settles(self):
        self.it.phase, self.it.tries, self.it.lease = 6, 2, LEASE
        self.acts_at(1005)
        self.sees(3, 0, 1500)
        self.assertEqual((self.it.counter, self.it.awaited, self.it.sent), (20, 0, 990))
        self.assertEqual(self.bag(), [])

    def test_settling_by_the_times_of_the_lease(self):
        # half, late and end; then the phase, the server asked, and the due
        cases = (
            ((1006, 1007, 1008), 3, None, 1006),
            ((1005, 1006, 1008), 4, 2, 1006),
            ((1005, 1065, 2000), 4, 2, 1065),
            ((1005, 1066, 2000), 4, 2, 1065),
            ((1005, 1125, 2000), 4, 2, 1065),
            ((1005, 1126, 2000), 4, 2, 1065),
            ((1005, 1127, 2000), 4, 2, 1066),
            ((1000, 1805, 2000), 4, 2, 1405),
            ((1000, 1005, 1006), 5, None, 1006),
            ((1000, 1005, 1065), 5, None, 1065),
            ((1000, 1005, 1066), 5, None, 1065),
            ((1000, 1005, 1126), 5, None, 1065),
            ((1000, 1005, 1127), 5, None, 1066),
            ((1000, 1004, 1805), 5, None, 1405),
        )
        for phase in (3, 4, 5, 6):
            for times, next_phase, server, due in cases:
                self.setUp()
                self.it.phase, self.it.tries, self.it.lease = phase, 2, (2, 77) + times
                self.acts_at(1005)
                self.sees(next_phase, 0, due)
                self.assertEqual(self.it.lease, (2, 77) + times)
                if next_phase == 3:
                    self.assertEqual((self.it.counter, self.it.awaited, self.it.sent), (20, 0, 990))
                    self.assertEqual(self.bag(), [])
                else:
                    self.sent(3, server, 77)

    def test_settling_at_the_end_it_seeks(self):
        for phase in (3, 4, 5, 6):
            for end in (1005, 1004):
                self.setUp()
                self.it.phase, self.it.tries, self.it.lease = phase, 2, (2, 77, 1000, 1001, end)
                self.acts_at(1005)
                self.sees(1, 0, 1005 + 3)
                self.sent(1, None, 0)
                self.assertIsNone(self.it.lease)

    def test_plugged_nowhere_nothing_is_put(self):
        self.done(UNPLUG, 5)
        self.it.phase, self.it.lease = 4, LEASE
        self.acts_at(1600)
        self.sees(4, 0, 1737)
        self.assertEqual((self.it.counter, self.it.awaited, self.it.sent), (21, 21, 1600))
        self.assertEqual(self.bag(), [])

    def test_a_lease_from_its_first_half_to_its_end(self):
        self.it.phase, self.it.lease, self.it.due = 3, LEASE, 1500
        # It acts at half, then 187, 94 and 60 later, at late, 62 and 60 later, and at the end, when it seeks.
        for due, phase in ((1500, 4), (1687, 4), (1781, 4), (1841, 4), (1875, 5), (1937, 5), (1997, 5), (2000, 1)):
            self.assertEqual(self.it.due, due)
            self.acts_at(due)
            self.assertEqual(self.it.phase, phase)
        self.assertEqual([(message[3], message[4], message[5]) for message in self.bag()],
                         [(3, 2, 77)] * 4 + [(3, None, 77)] * 3 + [(1, None, 0)])
