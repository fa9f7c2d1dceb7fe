"""What a client does when it hears a message, in each phase; the phases are laid into its hands."""

from tests.helper import (ASKING, BEGIN, DELIVER, NO, OFFER, OUT, PLUG, SEEKING, UNPLUG, UP, YES, LineTest, shown, told)

BEST = (2, 55, 900)
# server, address, half, late, end
LEASE = (2, 77, 1500, 1875, 2000)
KINDS = (SEEKING, OFFER, ASKING, YES, NO)


class HearingTest(LineTest):
    """It is 1000, and host 5 waits since 990 for an answer to its message 20."""

    def setUp(self):
        LineTest.setUp(self)
        self.done(BEGIN, 4, 10, 1000)
        self.done(PLUG, 5, 0, 7)
        self.it = self.hand(5)
        self.it.counter = 20

    def waits(self, phase, tries=1, offer=None, lease=None):
        self.it.phase, self.it.tries, self.it.offer, self.it.lease = phase, tries, offer, lease
        self.it.awaited, self.it.sent, self.it.due = 20, 990, 1005

    def waits_fully(self, phase):
        """Wait in that phase with what belongs to it."""
        self.waits(phase, offer=BEST if phase == 2 else None, lease=LEASE if phase in (0, 3, 4, 5, 6) else None)

    def hears(self, kind, server=2, address=0, length=0, number=20):
        """What is put when a message is heard."""
        self.lay((OUT, 0, 7), 5, number, kind, server, address, length)
        return self.delivered(len(self.world.bag) - 1)

    def is_of_no_account(self, *heard, **more):
        before = shown(self.world)
        self.assertEqual(self.hears(*heard, **more), [], (heard, more))
        self.assertEqual(shown(self.world), before, (heard, more))

    def sees(self, phase, tries, awaited, sent, due):
        self.assertEqual((self.it.phase, self.it.tries, self.it.awaited, self.it.sent, self.it.due),
                         (phase, tries, awaited, sent, due))

    def sends(self, put, kind, server, address):
        """The one message that was put is the client's own."""
        self.assertEqual(put, [told((UP, 0, 7), 5, 21, kind, server, address)])
        self.assertEqual((self.it.counter, self.it.awaited, self.it.sent), (21, 21, 1000))


class EachPhaseAndKindTest(HearingTest):
    def test_what_is_of_no_account(self):
        counts = {1: (OFFER,), 2: (YES, NO), 4: (YES, NO), 5: (YES, NO), 6: (YES, NO)}
        for phase in range(7):
            for kind in KINDS:
                if kind not in counts.get(phase, ()):
                    self.waits_fully(phase)
                    for address in (0, 55, 77):
                        self.is_of_no_account(kind, 2, address, 900)

    def test_another_number_than_the_one_waited_for(self):
        for phase in range(7):
            for kind in KINDS:
                for number in (1, 19, 21, 10 ** 18):
                    self.waits_fully(phase)
                    self.is_of_no_account(kind, 2, 55 if phase == 2 else 77, 900, number=number)

    def test_a_client_that_waits_for_none(self):
        for phase in (0, 3):
            for kind in KINDS:
                self.waits_fully(phase)
                self.it.awaited = 0
                self.is_of_no_account(kind, 2, 77, 900)

    def test_the_message_is_gone_in_any_case(self):
        for phase in range(7):
            for kind in KINDS:
                self.waits_fully(phase)
                self.hears(kind, 2, 77, 900, number=19)
                self.assertEqual(self.world.bag, [])


class OfferTest(HearingTest):
    def hears_offer(self, server, address, length):
        """All but the best offer stays as it was."""
        before = shown(self.it)
        self.assertEqual(self.hears(OFFER, server, address, length), [])
        before["offer"] = self.it.offer
        self.assertEqual(shown(self.it), before)
        return self.it.offer

    def test_the_first_one(self):
        for offer in ((0, 0, 1), (3, 4294967295, 1000000000)):
            self.waits(1)
            self.assertEqual(self.hears_offer(*offer), offer)

    def test_a_greater_len(self):
        for server in (1, 2, 3):
            self.waits(1, offer=BEST)
            self.assertEqual(self.hears_offer(server, 60, 901), (server, 60, 901))

    def test_a_smaller_len(self):
        for server in (1, 2, 3):
            self.waits(1, offer=BEST)
            self.assertEqual(self.hears_offer(server, 60, 899), BEST)

    def test_the_same_len(self):
        for server, best in ((0, (0, 60, 900)), (1, (1, 60, 900)), (2, BEST), (3, BEST)):
            self.waits(1, offer=BEST)
            self.assertEqual(self.hears_offer(server, 60, 900), best)

    def test_one_behind_another(self):
        self.waits(1)
        for server, address, length, best in (
                (3, 10, 100, (3, 10, 100)), (3, 11, 100, (3, 10, 100)), (1, 12, 99, (3, 10, 100)),
                (2, 13, 100, (2, 13, 100)), (3, 14, 101, (3, 14, 101)), (0, 15, 100, (3, 14, 101)),
                (0, 16, 101, (0, 16, 101)), (1, 17, 101, (0, 16, 101))):
            self.assertEqual(self.hears_offer(server, address, length), best)


class YesTest(HearingTest):
    def test_in_phase_2_it_fits_by_server_and_address(self):
        self.waits(2, offer=BEST)
        for server, address in ((1, 55), (3, 55), (2, 54), (2, 77), (2, 0)):
            self.is_of_no_account(YES, server, address, 900)
        self.assertEqual(self.hears(YES, 2, 55, 900), [])
        self.assertEqual((self.it.offer, self.it.lease), (None, (2, 55, 1440, 1777, 1890)))
        self.sees(3, 0, 0, 990, 1440)
        self.assertEqual(self.it.counter, 20)

    def test_in_phase_2_the_len_need_not_be_the_offered_one(self):
        for length, half, late in ((20, 10, 17), (899, 449, 786), (901, 450, 788), (10 ** 9, 500000000, 875000000)):
            self.setUp()
            self.waits(2, offer=BEST)
            self.hears(YES, 2, 55, length)
            self.assertEqual(self.it.lease, (2, 55, 990 + half, 990 + late, 990 + length))
            self.assertIsNone(self.it.offer)

    def test_in_phase_2_an_old_lease_is_of_no_account(self):
        self.waits(2, offer=BEST, lease=LEASE)
        self.is_of_no_account(YES, 2, 77, 900)

    def test_in_phases_4_to_6_it_fits_by_the_address_alone(self):
        for phase in (4, 5, 6):
            self.waits(phase, lease=LEASE)
            for address in (76, 78, 0, 55):
                self.is_of_no_account(YES, 2, address, 900)
            for server in range(4):
                self.setUp()
                self.waits(phase, tries=2, lease=LEASE)
                self.assertEqual(self.hears(YES, server, 77, 801), [])
                self.assertEqual((self.it.offer, self.it.lease), (None, (server, 77, 1390, 1690, 1791)))
                self.sees(3, 0, 0, 990, 1390)

    def test_the_times_are_rounded_down(self):
        # len * 7 first, then the eighth of it
        for length, half, late in ((11, 5, 9), (12, 6, 10), (13, 6, 11), (14, 7, 12), (15, 7, 13), (16, 8, 14),
                                   (17, 8, 14), (1001, 500, 875), (1007, 503, 881)):
            self.setUp()
            self.waits(4, lease=LEASE)
            self.hears(YES, 1, 77, length)
            self.assertEqual(self.it.lease, (1, 77, 990 + half, 990 + late, 990 + length))

    def test_an_end_that_is_now_or_was_before(self):
        for phase in (2, 4, 5, 6):
            for length in (10, 9, 1):
                self.waits_fully(phase)
                self.is_of_no_account(YES, 2, 55 if phase == 2 else 77, length)

    def test_an_end_that_is_one_later_than_now(self):
        for phase in (2, 4, 5, 6):
            self.setUp()
            self.waits_fully(phase)
            address = 55 if phase == 2 else 77
            put = self.hears(YES, 2, address, 11)
            self.assertEqual(self.it.lease, (2, address, 995, 999, 1001))
            self.sends(put, ASKING, -1, address)
            self.sees(5, 0, 21, 1000, 1001)

    def test_settling_into_phase_3(self):
        # half is one later than now
        for phase in (2, 4, 5, 6):
            self.setUp()
            self.waits_fully(phase)
            self.assertEqual(self.hears(YES, 2, 55 if phase == 2 else 77, 22), [])
            self.sees(3, 0, 0, 990, 1001)

    def test_settling_into_phase_4(self):
        for phase in (2, 4, 5, 6):
            # half is now; the last one where late is later than now
            for length, due in ((21, 1008), (20, 1007), (13, 1001)):
                self.setUp()
                self.waits_fully(phase)
                address = 55 if phase == 2 else 77
                put = self.hears(YES, 2, address, length)
                self.sends(put, ASKING, 2, address)
                self.sees(4, 0, 21, 1000, due)
                self.assertIsNone(self.it.offer)

    def test_settling_into_phase_4_it_asks_the_server_of_the_yes(self):
        self.waits(5, lease=LEASE)
        put = self.hears(YES, 3, 77, 20)
        self.sends(put, ASKING, 3, 77)

    def test_settling_into_phase_5(self):
        for phase in (2, 4, 5, 6):
            # late is now
            self.setUp()
            self.waits_fully(phase)
            address = 55 if phase == 2 else 77
            put = self.hears(YES, 2, address, 12)
            self.sends(put, ASKING, -1, address)
            self.sees(5, 0, 21, 1000, 1002)

    def test_the_pause_when_there_is_much_left(self):
        for sent, length, phase, due in ((500, 1000, 4, 1187), (600, 800, 4, 1150), (900, 200, 4, 1060),
                                         (0, 1100, 5, 1060), (0, 1142, 5, 1071)):
            self.setUp()
            self.waits(6, lease=LEASE)
            self.it.sent = sent
            self.hears(YES, 2, 77, length)
            self.assertEqual((self.it.phase, self.it.due), (phase, due), (sent, length))

    def test_a_second_yes_is_of_no_account(self):
        self.waits(2, offer=BEST)
        self.hears(YES, 2, 55, 900)
        self.is_of_no_account(YES, 2, 55, 900)
        self.is_of_no_account(NO, 2)

    def test_what_is_sent_when_it_settles_is_lost_in_a_full_bag(self):
        self.world.cap = 2
        self.waits(4, lease=LEASE)
        self.lay((OUT, 0, 7), 5, 20, YES, 2, 77, 20)
        self.lay((OUT, 3, 3), 5, 1, NO, 2)
        self.lay((OUT, 3, 3), 5, 1, NO, 2)
        self.assertEqual(self.call(DELIVER, 0), [0, 0])
        self.assertEqual((self.it.phase, self.it.counter, self.it.awaited, self.it.sent), (4, 21, 21, 1000))


class NoTest(HearingTest):
    def test_it_seeks_with_0_tries(self):
        for phase in (2, 4, 5, 6):
            for server in range(4):
                self.setUp()
                self.waits_fully(phase)
                put = self.hears(NO, server)
                self.sends(put, SEEKING, -1, 0)
                self.sees(1, 0, 21, 1000, 1003)
                self.assertEqual((self.it.offer, self.it.lease), (None, None))

    def test_seeking_it_is_of_no_account(self):
        self.waits(1, offer=BEST)
        self.is_of_no_account(NO, 2)


class NotThereTest(HearingTest):
    def test_a_client_that_is_plugged_nowhere_hears_nothing(self):
        self.done(UNPLUG, 5)
        for phase in range(7):
            for kind in KINDS:
                self.waits_fully(phase)
                self.is_of_no_account(kind, 2, 55 if phase == 2 else 77, 900)
