"""Whole ways: from on to bound and on, through loss, doubling, delay, moving, and off and on."""

from tests.helper import (ASKING, ASSIGN, BEGIN, CLIENT, DELIVER, DOUBLE, FLOW, FORGET, LOSE, NEXT, NO, OFF, OFFER, ON,
                          OUT, PLUG, RELAY, REST, SEEKING, TICK, UNPLUG, UP, WITHDRAW, WRITTEN, YES, LineTest, told)

NO_OFFER = [-1, 0, 0]
NO_LEASE = [-1, 0, 0, 0, 0]
HERE = [1, 7]
NOWHERE = [-1, -1]


class WayTest(LineTest):
    """Host 5 is plugged at circuit 7 of relay 1, which hangs on circuit 11 of relay 0.

    Server 1 of two has address 40 for it there, with a len of 800; it is 1000.
    """

    def setUp(self):
        LineTest.setUp(self)
        self.done(BEGIN, 2, 20, 1000)
        self.done(RELAY, 0, 11, 16)
        self.done(RELAY, 0, 12, 16)
        self.done(PLUG, 5, 1, 7)
        self.done(ASSIGN, 1, 5, 1, 40, 800)

    def sees(self, phase, counter, awaited, sent, tries, due, offer=NO_OFFER, lease=NO_LEASE, where=HERE):
        self.assertEqual(self.done(CLIENT, 5), [phase, counter, awaited, sent, tries, due, *where, *offer, *lease])

    def tick_to(self, time, acts):
        self.assertEqual(self.call(TICK, time - self.world.now), [0, time, acts])

    def flow(self, count):
        """All that is under way is delivered, and that is so many."""
        self.assertEqual(self.call(FLOW, 1000), [0, count])

    def come_out(self):
        """Deliver until all that is under way has come out; the messages that are put out, but not heard yet."""
        while any(message[0] != OUT for message in self.peeked()):
            for k, message in enumerate(self.peeked()):
                if message[0] != OUT:
                    self.done(DELIVER, k)
                    break
        return self.peeked()

    def bound(self):
        """Bring the host to its lease: it asks at 1004, so the end is 1804."""
        self.done(ON, 5)
        self.flow(7)
        self.tick_to(1004, 1)
        self.flow(7)
        self.sees(3, 2, 0, 1004, 0, 1404, lease=[1, 40, 1404, 1704, 1804])


class FromOnToBoundTest(WayTest):
    def test_step_by_step(self):
        self.done(ON, 5)
        self.sees(1, 1, 1, 1000, 0, 1004)
        self.assertEqual(self.peeked(), [told((UP, 1, 7), 5, 1, SEEKING)])
        # Twice up, two servers, twice down, out.
        self.flow(7)
        self.sees(1, 1, 1, 1000, 0, 1004, offer=[1, 40, 800])
        self.tick_to(1003, 0)
        self.tick_to(1004, 1)
        self.sees(2, 2, 2, 1004, 0, 1009, offer=[1, 40, 800])
        self.assertEqual(self.peeked(), [told((UP, 1, 7), 5, 2, ASKING, 1, 40)])
        self.tick_to(1006, 0)
        self.flow(7)
        self.sees(3, 2, 0, 1004, 0, 1404, lease=[1, 40, 1404, 1704, 1804])
        self.assertEqual(self.call(WRITTEN, 1, 5), [0, 1, 40, 1806])
        self.assertEqual(self.call(WRITTEN, 0, 5), [0, 0])
        self.assertEqual(self.call(NEXT), [0, 1404])

    def test_the_best_of_two_offers(self):
        self.done(ASSIGN, 0, 5, 1, 30, 801)
        self.done(ON, 5)
        self.flow(10)
        self.sees(1, 1, 1, 1000, 0, 1004, offer=[0, 30, 801])
        self.tick_to(1004, 1)
        # Server 1 says nothing to what is meant for server 0.
        self.flow(7)
        self.sees(3, 2, 0, 1004, 0, 1404, lease=[0, 30, 1404, 1704, 1805])

    def test_the_smaller_server_of_two_equal_offers_whichever_comes_first(self):
        for first in (0, 1):
            self.anew()
            self.done(ASSIGN, 0, 5, 1, 30, 800)
            self.done(ON, 5)
            self.assertEqual([message[5:8] for message in self.come_out()], [[OFFER, 0, 30], [OFFER, 1, 40]])
            self.done(DELIVER, first)
            self.done(DELIVER, 0)
            self.sees(1, 1, 1, 1000, 0, 1004, offer=[0, 30, 800])

    def test_a_late_offer_is_of_no_account(self):
        self.done(ON, 5)
        self.come_out()
        self.tick_to(1004, 1)
        self.assertEqual(self.delivered(0), [])
        self.sees(1, 2, 2, 1004, 1, 1013)
        self.flow(7)
        self.sees(1, 2, 2, 1004, 1, 1013, offer=[1, 40, 800])

    def test_nobody_answers(self):
        self.done(REST, 1, 1)
        self.done(ON, 5)
        self.flow(4)
        self.tick_to(1004, 1)
        self.flow(4)
        self.sees(1, 2, 2, 1004, 1, 1013)
        self.done(REST, 1, 0)
        self.tick_to(1013, 1)
        self.flow(7)
        self.tick_to(1028, 1)
        self.sees(2, 4, 4, 1028, 0, 1032, offer=[1, 40, 800])

    def test_the_asking_is_lost_four_times(self):
        self.done(ON, 5)
        self.flow(7)
        # The waits are 3, 7, 15 and 31 and the rest of the counter by 3.
        for counter, due, tries, later in ((2, 1004, 0, 1009), (3, 1009, 1, 1016), (4, 1016, 2, 1032),
                                           (5, 1032, 3, 1065)):
            self.tick_to(due, 1)
            self.sees(2, counter, counter, due, tries, later, offer=[1, 40, 800])
            self.assertEqual(self.peeked(), [told((UP, 1, 7), 5, counter, ASKING, 1, 40)])
            self.done(LOSE, 0)
        self.tick_to(1065, 1)
        self.sees(1, 6, 6, 1065, 0, 1068)

    def test_an_answer_to_the_asking_before_is_of_no_account(self):
        self.done(ON, 5)
        self.flow(7)
        self.tick_to(1004, 1)
        self.assertEqual(len(self.come_out()), 1)
        self.tick_to(1009, 1)
        self.assertEqual(self.delivered(0), [])
        self.sees(2, 3, 3, 1009, 1, 1016, offer=[1, 40, 800])
        self.flow(7)
        self.sees(3, 3, 0, 1009, 0, 1409, lease=[1, 40, 1409, 1709, 1809])

    def test_what_was_offered_is_assigned_no_more(self):
        self.done(ON, 5)
        self.flow(7)
        self.done(WITHDRAW, 1, 5, 1)
        self.tick_to(1004, 1)
        self.assertEqual(self.come_out(), [told((OUT, 1, 7), 5, 2, NO, 1)])
        self.assertEqual(self.delivered(0), [told((UP, 1, 7), 5, 3, SEEKING)])
        self.sees(1, 3, 3, 1004, 0, 1007)

    def test_another_address_than_was_offered_is_assigned(self):
        self.done(ON, 5)
        self.flow(7)
        self.done(ASSIGN, 1, 5, 1, 41, 800)
        self.tick_to(1004, 1)
        # The no, then the seeking and the offer that come of it.
        self.flow(14)
        self.sees(1, 3, 3, 1004, 0, 1007, offer=[1, 41, 800])
        self.assertEqual(self.call(WRITTEN, 1, 5), [0, 0])

    def test_two_clients_at_one_circuit(self):
        self.done(PLUG, 6, 1, 7)
        self.done(ASSIGN, 1, 6, 1, 60, 100)
        self.done(ON, 6)
        self.done(ON, 5)
        self.flow(14)
        self.tick_to(1004, 2)
        self.flow(14)
        self.sees(3, 2, 0, 1004, 0, 1404, lease=[1, 40, 1404, 1704, 1804])
        self.assertEqual(self.call(CLIENT, 6)[12:], [1, 60, 1054, 1091, 1104])


class FromBoundOnTest(WayTest):
    def test_renewed_at_half(self):
        self.bound()
        self.tick_to(1403, 0)
        self.tick_to(1404, 1)
        self.sees(4, 3, 3, 1404, 0, 1554, lease=[1, 40, 1404, 1704, 1804])
        self.assertEqual(self.peeked(), [told((UP, 1, 7), 5, 3, ASKING, 1, 40)])
        self.tick_to(1410, 0)
        self.flow(7)
        self.sees(3, 3, 0, 1404, 0, 1804, lease=[1, 40, 1804, 2104, 2204])
        self.assertEqual(self.call(WRITTEN, 1, 5), [0, 1, 40, 2210])

    def test_to_the_end_without_an_answer(self):
        self.bound()
        lease = [1, 40, 1404, 1704, 1804]
        counter = 2
        for due, phase, later, server in ((1404, 4, 1554, 1), (1554, 4, 1629, 1), (1629, 4, 1689, 1),
                                          (1689, 4, 1704, 1), (1704, 5, 1764, -1), (1764, 5, 1804, -1)):
            self.tick_to(due, 1)
            counter += 1
            self.sees(phase, counter, counter, due, 0, later, lease=lease)
            self.assertEqual(self.peeked(), [told((UP, 1, 7), 5, counter, ASKING, server, 40)])
            self.done(LOSE, 0)
        self.tick_to(1803, 0)
        self.tick_to(1804, 1)
        self.sees(1, 9, 9, 1804, 0, 1807)
        self.assertEqual(self.peeked(), [told((UP, 1, 7), 5, 9, SEEKING)])

    def test_all_in_one_tick(self):
        self.bound()
        self.tick_to(1804, 7)
        self.sees(1, 9, 9, 1804, 0, 1807)
        self.assertEqual([message[5:8] for message in self.peeked()],
                         [[ASKING, 1, 40]] * 4 + [[ASKING, -1, 40]] * 2 + [[SEEKING, -1, 0]])

    def test_asking_all_another_server_says_yes(self):
        self.bound()
        self.done(REST, 1, 1)
        self.done(ASSIGN, 0, 5, 1, 40, 80)
        self.tick_to(1704, 5)
        for step in range(4):
            self.done(LOSE, 0)
        self.flow(7)
        self.sees(3, 7, 0, 1704, 0, 1744, lease=[0, 40, 1744, 1774, 1784])
        self.assertEqual(self.call(WRITTEN, 0, 5), [0, 1, 40, 1784])
        self.assertEqual(self.call(WRITTEN, 1, 5), [0, 1, 40, 1804])

    def test_asking_all_a_no_ahead_of_a_yes(self):
        self.bound()
        self.done(ASSIGN, 0, 5, 1, 39, 80)
        self.tick_to(1704, 5)
        for step in range(4):
            self.done(LOSE, 0)
        self.assertEqual([message[4:9] for message in self.come_out()], [[7, NO, 0, 0, 0], [7, YES, 1, 40, 800]])
        self.done(DELIVER, 0)
        self.sees(1, 8, 8, 1704, 0, 1709)
        # The yes is one to a number that is waited for no more.
        self.assertEqual(self.delivered(0), [])
        self.sees(1, 8, 8, 1704, 0, 1709)

    def test_asking_all_a_yes_ahead_of_a_no(self):
        self.bound()
        self.done(ASSIGN, 0, 5, 1, 39, 80)
        self.tick_to(1704, 5)
        for step in range(4):
            self.done(LOSE, 0)
        self.come_out()
        self.done(DELIVER, 1)
        self.done(DELIVER, 0)
        self.sees(3, 7, 0, 1704, 0, 2104, lease=[1, 40, 2104, 2404, 2504])

    def test_withdrawn_while_it_is_bound(self):
        self.bound()
        self.done(WITHDRAW, 1, 5, 1)
        self.tick_to(1404, 1)
        self.flow(7 + 4)
        self.sees(1, 4, 4, 1404, 0, 1408)
        self.assertEqual(self.call(WRITTEN, 1, 5), [0, 1, 40, 1804])

    def test_a_shorter_len_when_renewed(self):
        self.bound()
        self.done(ASSIGN, 1, 5, 1, 40, 8)
        self.tick_to(1404, 1)
        self.flow(7)
        # The lease is shorter than the one before; what is written stays later.
        self.sees(3, 3, 0, 1404, 0, 1408, lease=[1, 40, 1408, 1411, 1412])
        self.assertEqual(self.call(WRITTEN, 1, 5), [0, 1, 40, 1804])


class DoubledLostAndHeldBackTest(WayTest):
    def test_a_doubled_yes(self):
        self.done(ON, 5)
        self.flow(7)
        self.tick_to(1004, 1)
        self.come_out()
        self.done(DOUBLE, 0)
        self.done(DELIVER, 0)
        bound = self.call(CLIENT, 5)
        self.assertEqual(bound[1], 3)
        self.assertEqual(self.delivered(0), [])
        self.assertEqual(self.call(CLIENT, 5), bound)

    def test_a_doubled_seeking_and_a_doubled_asking(self):
        self.done(ON, 5)
        self.done(DOUBLE, 0)
        self.flow(14)
        self.sees(1, 1, 1, 1000, 0, 1004, offer=[1, 40, 800])
        self.tick_to(1004, 1)
        self.done(DOUBLE, 0)
        self.flow(14)
        self.sees(3, 2, 0, 1004, 0, 1404, lease=[1, 40, 1404, 1704, 1804])

    def test_a_doubled_asking_that_comes_later_is_written_but_not_believed(self):
        self.done(ON, 5)
        self.flow(7)
        self.tick_to(1004, 1)
        self.done(DOUBLE, 0)
        self.done(DELIVER, 0)
        while len(self.world.bag) > 1:
            self.done(DELIVER, 1)
        self.sees(3, 2, 0, 1004, 0, 1404, lease=[1, 40, 1404, 1704, 1804])
        self.tick_to(1300, 0)
        self.flow(7)
        self.sees(3, 2, 0, 1004, 0, 1404, lease=[1, 40, 1404, 1704, 1804])
        self.assertEqual(self.call(WRITTEN, 1, 5), [0, 1, 40, 2100])

    def test_a_doubled_no(self):
        self.done(ON, 5)
        self.flow(7)
        self.done(WITHDRAW, 1, 5, 1)
        self.tick_to(1004, 1)
        self.come_out()
        self.done(DOUBLE, 0)
        self.assertEqual(len(self.delivered(0)), 1)
        self.assertEqual(self.delivered(0), [])
        self.sees(1, 3, 3, 1004, 0, 1007)

    def test_a_lost_yes(self):
        self.done(ON, 5)
        self.flow(7)
        self.tick_to(1004, 1)
        self.come_out()
        self.done(LOSE, 0)
        # The server wrote it, the client asks anew and counts from then.
        self.assertEqual(self.call(WRITTEN, 1, 5), [0, 1, 40, 1804])
        self.tick_to(1009, 1)
        self.flow(7)
        self.sees(3, 3, 0, 1009, 0, 1409, lease=[1, 40, 1409, 1709, 1809])
        self.assertEqual(self.call(WRITTEN, 1, 5), [0, 1, 40, 1809])

    def test_a_yes_held_back_when_renewing(self):
        # It is heard at the last moment before the client asks anew; then in the moment when it does.
        for heard_at, phase in ((1553, 3), (1554, 4)):
            self.anew()
            self.bound()
            self.tick_to(1404, 1)
            self.come_out()
            self.tick_to(heard_at, phase - 3)
            self.done(DELIVER, 0)
            self.assertEqual(self.call(CLIENT, 5)[1], phase)

    def test_a_yes_held_back_until_it_is_over(self):
        # A lease of 4: asked for at 1004, it is over at 1008.
        for heard_at, phase, sent, due in ((1005, 3, 1004, 1006), (1006, 4, 1006, 1007), (1007, 5, 1007, 1008),
                                           (1008, 2, 1004, 1009)):
            self.anew()
            self.done(ASSIGN, 1, 5, 1, 40, 4)
            self.done(ON, 5)
            self.flow(7)
            self.tick_to(1004, 1)
            self.come_out()
            self.tick_to(heard_at, 0)
            put = self.delivered(0)
            row = self.call(CLIENT, 5)
            self.assertEqual((row[1], row[4], row[6]), (phase, sent, due))
            if phase == 2:
                self.assertEqual((put, row[9:]), ([], [1, 40, 4] + NO_LEASE))
            else:
                self.assertEqual(row[9:], NO_OFFER + [1, 40, 1006, 1007, 1008])
                self.assertEqual(len(put), 0 if phase == 3 else 1)

    def test_answers_put_out_of_order(self):
        self.bound()
        self.tick_to(1404, 1)
        self.tick_to(1554, 1)
        self.assertEqual([message[4:6] for message in self.come_out()], [[3, YES], [4, YES]])
        self.done(DELIVER, 1)
        self.sees(3, 4, 0, 1554, 0, 1954, lease=[1, 40, 1954, 2254, 2354])
        self.done(DELIVER, 0)
        self.sees(3, 4, 0, 1554, 0, 1954, lease=[1, 40, 1954, 2254, 2354])


class OffAndOnTest(WayTest):
    LEASE = [1, 40, 1404, 1704, 1804]

    def test_coming_back_with_a_yes(self):
        self.bound()
        self.done(OFF, 5)
        self.sees(0, 2, 0, 0, 0, -1, lease=self.LEASE)
        self.tick_to(1100, 0)
        self.done(ON, 5)
        self.sees(6, 3, 3, 1100, 0, 1103, lease=self.LEASE)
        self.assertEqual(self.peeked(), [told((UP, 1, 7), 5, 3, ASKING, -1, 40)])
        self.flow(7)
        self.sees(3, 3, 0, 1100, 0, 1500, lease=[1, 40, 1500, 1800, 1900])

    def test_coming_back_without_an_answer(self):
        self.bound()
        self.done(OFF, 5)
        self.done(REST, 1, 1)
        self.tick_to(1100, 0)
        self.done(ON, 5)
        for counter, due, tries, later in ((4, 1103, 1, 1111), (5, 1111, 2, 1128)):
            self.tick_to(due, 1)
            self.sees(6, counter, counter, due, tries, later, lease=self.LEASE)
        # It takes the lease for good, as no one said otherwise.
        self.tick_to(1128, 1)
        self.sees(3, 5, 0, 1111, 0, 1404, lease=self.LEASE)

    def test_coming_back_without_an_answer_it_settles_by_the_time(self):
        # Coming back takes 28 or so; half is 1404, late 1704 and the end 1804.
        for on_at, phase in ((1300, 3), (1380, 4), (1500, 4), (1680, 5), (1750, 5), (1780, 1), (1803, 1)):
            self.anew()
            self.bound()
            self.done(OFF, 5)
            self.tick_to(on_at, 0)
            self.done(ON, 5)
            self.assertEqual(self.call(CLIENT, 5)[1], 6)
            self.tick_to(on_at + 3 + 8 + 17, 3)
            self.assertEqual(self.call(CLIENT, 5)[1], phase, on_at)

    def test_coming_back_with_a_no(self):
        self.bound()
        self.done(OFF, 5)
        self.done(ASSIGN, 1, 5, 1, 41, 800)
        self.done(ON, 5)
        self.assertEqual(self.come_out(), [told((OUT, 1, 7), 5, 3, NO, 1)])
        self.assertEqual(self.delivered(0), [told((UP, 1, 7), 5, 4, SEEKING)])
        self.sees(1, 4, 4, 1004, 0, 1008)

    def test_coming_back_where_nobody_knows_it_nobody_answers(self):
        self.bound()
        self.done(OFF, 5)
        self.done(WITHDRAW, 1, 5, 1)
        self.done(ON, 5)
        self.flow(4)
        self.sees(6, 3, 3, 1004, 0, 1007, lease=self.LEASE)

    def test_on_at_the_end_of_the_lease_and_one_before_it(self):
        for on_at, phase in ((1803, 6), (1804, 1), (1805, 1)):
            self.anew()
            self.bound()
            self.done(OFF, 5)
            self.tick_to(on_at, 0)
            self.done(ON, 5)
            self.assertEqual(self.call(CLIENT, 5)[1], phase)

    def test_a_forgotten_lease(self):
        self.bound()
        self.done(OFF, 5)
        self.done(FORGET, 5)
        self.done(ON, 5)
        self.sees(1, 3, 3, 1004, 0, 1007)

    def test_off_while_the_answer_is_under_way(self):
        self.done(ON, 5)
        self.flow(7)
        self.tick_to(1004, 1)
        self.come_out()
        self.done(OFF, 5)
        self.assertEqual(self.delivered(0), [])
        self.sees(0, 2, 0, 0, 0, -1)

    def test_off_and_on_while_the_answer_is_under_way(self):
        self.done(ON, 5)
        self.come_out()
        self.done(OFF, 5)
        self.done(ON, 5)
        # The offer is one to number 1; the client waits for number 2.
        self.done(DELIVER, 0)
        self.sees(1, 2, 2, 1000, 0, 1005)

    def test_a_yes_that_comes_back_from_another_server(self):
        self.bound()
        self.done(OFF, 5)
        self.done(ASSIGN, 0, 5, 1, 40, 80)
        self.done(REST, 1, 1)
        self.done(ON, 5)
        self.flow(7)
        self.sees(3, 3, 0, 1004, 0, 1044, lease=[0, 40, 1044, 1074, 1084])


class MovingTest(WayTest):
    def test_unplugged_while_the_offer_is_under_way(self):
        self.done(ON, 5)
        self.come_out()
        self.done(UNPLUG, 5)
        self.done(DELIVER, 0)
        self.sees(1, 1, 1, 1000, 0, 1004, where=NOWHERE)

    def test_plugged_elsewhere_while_the_offer_is_under_way(self):
        for relay, circuit in ((1, 8), (2, 7), (0, 7)):
            self.anew()
            self.done(ON, 5)
            self.come_out()
            self.done(UNPLUG, 5)
            self.done(PLUG, 5, relay, circuit)
            self.assertEqual(self.delivered(0), [])
            self.sees(1, 1, 1, 1000, 0, 1004, where=[relay, circuit])

    def test_plugged_in_again_before_the_offer_comes_out(self):
        self.done(ON, 5)
        self.done(UNPLUG, 5)
        self.done(FLOW, 6)
        self.done(PLUG, 5, 1, 7)
        self.done(DELIVER, 0)
        self.sees(1, 1, 1, 1000, 0, 1004, offer=[1, 40, 800])

    def test_bound_and_moved_to_a_relay_where_nothing_is_assigned(self):
        self.bound()
        self.done(UNPLUG, 5)
        self.done(PLUG, 5, 2, 7)
        self.tick_to(1404, 1)
        self.assertEqual(self.peeked(), [told((UP, 2, 7), 5, 3, ASKING, 1, 40)])
        # A no, for it names the server; then the seeking that nobody answers.
        self.flow(7 + 4)
        self.sees(1, 4, 4, 1404, 0, 1408, where=[2, 7])

    def test_moved_and_coming_back_where_another_address_is_assigned(self):
        self.bound()
        self.done(OFF, 5)
        self.done(UNPLUG, 5)
        self.done(PLUG, 5, 2, 7)
        self.done(ASSIGN, 1, 5, 2, 70, 80)
        self.done(ON, 5)
        self.flow(14)
        self.sees(1, 4, 4, 1004, 0, 1008, offer=[1, 70, 80], where=[2, 7])
        self.tick_to(1008, 1)
        self.flow(7)
        self.sees(3, 5, 0, 1008, 0, 1048, lease=[1, 70, 1048, 1078, 1088], where=[2, 7])
        self.assertEqual(self.call(WRITTEN, 1, 5), [0, 2, 40, 1804, 70, 1088])

    def test_moved_to_another_circuit_of_the_relay(self):
        self.bound()
        self.done(UNPLUG, 5)
        self.done(PLUG, 5, 1, 8)
        self.tick_to(1404, 1)
        self.flow(7)
        self.sees(3, 3, 0, 1404, 0, 1804, lease=[1, 40, 1804, 2104, 2204], where=[1, 8])

    def test_unplugged_to_the_end(self):
        self.bound()
        self.done(UNPLUG, 5)
        self.tick_to(1804, 7)
        self.assertEqual(self.peeked(), [])
        self.sees(1, 9, 9, 1804, 0, 1807, where=NOWHERE)

    def test_an_answer_comes_out_just_where_the_asking_came_in(self):
        self.done(RELAY, 1, 11, 16)
        self.done(RELAY, 3, 7, 16)
        self.done(UNPLUG, 5)
        for relay, circuit in ((0, 7), (1, 7), (2, 0), (3, 8), (4, 7), (4, 4095), (1, 12)):
            self.done(ASSIGN, 0, 5, relay, 50, 100)
            self.done(PLUG, 5, relay, circuit)
            self.done(ON, 5)
            self.done(UNPLUG, 5)
            out = self.come_out()
            self.assertEqual([message[:3] for message in out], [[OUT, relay, circuit]] * len(out))
            self.assertEqual([message[5] for message in out], [OFFER] * (2 if relay == 1 else 1))
            self.done(OFF, 5)
            self.done(FLOW, 10)
