"""forge (point 15), and what a forged message comes to."""

from tests.helper import (ASKING, ASSIGN, AT_SERVER, BEGIN, CLIENT, DOWN, FLOW, FORGE, LAST_ADDRESS, LOSE, NO, OFF,
                          OFFER, ON, OUT, PLUG, RELAY, SEEKING, STATE, TICK, UNPLUG, UP, WRITTEN, YES, LineTest, shown,
                          told)


class ForgeTest(LineTest):
    """Host 5 is plugged at circuit 7 of relay 1, which hangs on circuit 11 of relay 0; its counter is 1."""

    def setUp(self):
        LineTest.setUp(self)
        self.done(BEGIN, 2, 10, 1000)
        self.done(RELAY, 0, 11, 16)
        self.done(PLUG, 5, 1, 7)
        self.done(ON, 5)
        self.done(FLOW, 100)


class PutTest(ForgeTest):
    def test_all_its_numbers(self):
        self.assertEqual(self.call(FORGE, 1, 9, 5, 1, YES, 1, LAST_ADDRESS, 16, 0, 4095, 4095, 0), [0])
        self.assertEqual(self.peeked(), [
            told((UP, 1, 9), 5, 1, YES, 1, LAST_ADDRESS, 0, 16, ((0, 4095), (4095, 0)))])

    def test_no_server_and_no_pairs(self):
        self.assertEqual(self.call(FORGE, 0, 0, 5, 1, SEEKING, -1, 0, 0), [0])
        self.assertEqual(self.peeked(), [told((UP, 0, 0), 5, 1, SEEKING)])

    def test_server_0_is_not_none(self):
        self.done(FORGE, 0, 0, 5, 1, ASKING, 0, 0, 0)
        self.assertEqual(self.peeked(), [told((UP, 0, 0), 5, 1, ASKING, 0)])

    def test_it_is_put_at_the_end_and_nothing_else_is_changed(self):
        self.done(FORGE, 0, 0, 5, 1, SEEKING, -1, 0, 0)
        before = shown(self.world)
        self.done(FORGE, 0, 1, 5, 1, SEEKING, -1, 0, 0)
        self.assertEqual([message[2] for message in self.peeked()], [0, 1])
        before["bag"] = shown(self.world.bag)
        self.assertEqual(shown(self.world), before)

    def test_every_count_of_further_numbers(self):
        for count in range(92):
            further = [(count + at) % 4096 for at in range(count)]
            if count % 2 == 0 and count <= 32:
                self.assertEqual(self.call(FORGE, 1, 9, 5, 1, NO, 1, 3, 4, *further), [0])
                self.assertEqual(self.peeked(), [
                    told((UP, 1, 9), 5, 1, NO, 1, 3, 0, 4, tuple(zip(further[::2], further[1::2])))])
                self.done(LOSE, 0)
            else:
                self.refused(-1, FORGE, 1, 9, 5, 1, NO, 1, 3, 4, *further)

    def test_each_of_32_further_numbers_has_its_range(self):
        for at in range(32):
            for wrong in (-1, 4096):
                further = [0] * 32
                further[at] = wrong
                self.refused(-1, FORGE, 1, 9, 5, 1, NO, 1, 3, 4, *further)
        for edge in (0, 4095):
            self.assertEqual(self.call(FORGE, 1, 9, 5, 1, NO, 1, 3, 4, *[edge] * 32), [0])


class RefusedTest(ForgeTest):
    def test_an_inner_circuit(self):
        self.refused(-2, FORGE, 0, 11, 5, 1, SEEKING, -1, 0, 0)
        self.assertEqual(self.call(FORGE, 1, 11, 5, 1, SEEKING, -1, 0, 0), [0])

    def test_a_host_that_is_no_client(self):
        self.done(ASSIGN, 0, 6, 1, 40, 300)
        self.refused(-3, FORGE, 1, 9, 6, 1, SEEKING, -1, 0, 0)

    def test_the_number_at_the_counter_and_one_above_it(self):
        self.refused(-3, FORGE, 1, 9, 5, 2, SEEKING, -1, 0, 0)
        self.refused(-3, FORGE, 1, 9, 5, 10 ** 18, SEEKING, -1, 0, 0)
        self.assertEqual(self.call(FORGE, 1, 9, 5, 1, SEEKING, -1, 0, 0), [0])
        self.done(TICK, 13)
        self.refused(-3, FORGE, 1, 9, 5, 4, SEEKING, -1, 0, 0)
        for number in (1, 2, 3):
            self.assertEqual(self.call(FORGE, 1, 9, 5, number, SEEKING, -1, 0, 0), [0])

    def test_the_counter_of_a_new_client_is_0(self):
        self.done(PLUG, 6, 0, 3)
        self.refused(-3, FORGE, 1, 9, 6, 1, SEEKING, -1, 0, 0)

    def test_a_client_that_is_off_or_plugged_nowhere(self):
        self.done(OFF, 5)
        self.assertEqual(self.call(FORGE, 1, 9, 5, 1, SEEKING, -1, 0, 0), [0])
        self.done(UNPLUG, 5)
        self.assertEqual(self.call(FORGE, 1, 9, 5, 1, SEEKING, -1, 0, 0), [0])

    def test_a_full_bag(self):
        for step in range(10):
            self.assertEqual(self.call(FORGE, 1, 9, 5, 1, SEEKING, -1, 0, 0), [0])
        self.refused(-4, FORGE, 1, 9, 5, 1, SEEKING, -1, 0, 0)
        self.done(LOSE, 4)
        self.assertEqual(self.call(FORGE, 1, 9, 5, 1, SEEKING, -1, 0, 0), [0])

    def test_refusals_in_their_order(self):
        for step in range(10):
            self.done(FORGE, 1, 9, 5, 1, SEEKING, -1, 0, 0)
        # All four; then one less from the front, step by step.
        self.refused(-1, FORGE, 0, 11, 5, 2, SEEKING, -1, 0, 0, 1)
        self.refused(-1, FORGE, 0, 11, 6, 1, SEEKING, -1, 0, 0, *[0] * 34)
        self.refused(-2, FORGE, 0, 11, 5, 2, SEEKING, -1, 0, 0)
        self.refused(-2, FORGE, 0, 11, 6, 1, SEEKING, -1, 0, 0)
        self.refused(-3, FORGE, 0, 12, 5, 2, SEEKING, -1, 0, 0)
        self.refused(-3, FORGE, 0, 12, 6, 1, SEEKING, -1, 0, 0)
        self.refused(-4, FORGE, 0, 12, 5, 1, SEEKING, -1, 0, 0)

    def test_an_inner_circuit_ahead_of_the_host(self):
        self.refused(-2, FORGE, 0, 11, 6, 1, SEEKING, -1, 0, 0)
        self.refused(-2, FORGE, 0, 11, 5, 2, SEEKING, -1, 0, 0)


class WhatComesOfItTest(ForgeTest):
    def setUp(self):
        ForgeTest.setUp(self)
        self.done(ASSIGN, 0, 5, 1, 40, 300)
        self.done(ASSIGN, 1, 5, 1, 41, 400)

    def forged(self, kind, server=-1, address=0, number=1):
        """A message that was forged where host 5 is plugged, and all that comes of it, as far as it comes out."""
        self.done(FORGE, 1, 7, 5, number, kind, server, address, 0)
        self.done(FLOW, 4)
        self.done(FLOW, 2 * self.call(STATE)[2])
        out = self.peeked()
        self.assertEqual([message[:3] for message in out], [[OUT, 1, 7]] * len(out))
        return [message[3:9] for message in out]

    def test_a_seeking_is_answered_with_offers_that_the_client_takes_for_its_own(self):
        self.assertEqual(self.forged(SEEKING), [[5, 1, OFFER, 0, 40, 300], [5, 1, OFFER, 1, 41, 400]])
        self.done(FLOW, 2)
        self.assertEqual(self.call(CLIENT, 5)[9:12], [1, 41, 400])

    def test_an_asking_while_the_client_seeks_is_written_but_not_heard(self):
        before = self.call(CLIENT, 5)
        self.assertEqual(self.forged(ASKING, 0, 40), [[5, 1, YES, 0, 40, 300]])
        self.done(FLOW, 1)
        self.assertEqual(self.call(CLIENT, 5), before)
        self.assertEqual(self.call(WRITTEN, 0, 5), [0, 1, 40, 1300])

    def test_a_wrong_asking_while_the_client_seeks_brings_a_no_of_no_account(self):
        before = self.call(CLIENT, 5)
        self.assertEqual(self.forged(ASKING, 1, 40), [[5, 1, NO, 1, 0, 0]])
        self.done(FLOW, 1)
        self.assertEqual(self.call(CLIENT, 5), before)

    def test_nothing_comes_of_a_forged_offer_yes_or_no(self):
        before = self.call(CLIENT, 5)
        for kind in (OFFER, YES, NO):
            self.assertEqual(self.forged(kind, 0, 40), [])
            self.assertEqual(self.call(CLIENT, 5), before)
            self.assertEqual(self.call(WRITTEN, 0, 5), [0, 0])

    def test_an_asking_in_the_name_of_one_that_asks_is_a_yes_to_it(self):
        self.forged(SEEKING)
        self.done(FLOW, 2)
        self.done(TICK, 4)
        self.done(LOSE, 0)
        self.assertEqual(self.call(CLIENT, 5)[1:5], [2, 2, 2, 1004])
        self.done(TICK, 2)
        self.assertEqual(self.forged(ASKING, -1, 41, 2), [[5, 2, NO, 0, 0, 0], [5, 2, YES, 1, 41, 400]])
        self.done(LOSE, 0)
        self.done(FLOW, 1)
        # The lease counts from when the client sent its own, what is written from when the server was asked.
        self.assertEqual(self.call(CLIENT, 5)[1:], [3, 2, 0, 1004, 0, 1204, 1, 7, -1, 0, 0, 1, 41, 1204, 1354, 1404])
        self.assertEqual(self.call(WRITTEN, 1, 5), [0, 1, 41, 1406])

    def test_a_wrong_asking_in_the_name_of_one_that_asks_makes_it_seek(self):
        self.forged(SEEKING)
        self.done(FLOW, 2)
        self.done(TICK, 4)
        self.done(LOSE, 0)
        self.assertEqual(self.forged(ASKING, 0, 41, 2), [[5, 2, NO, 0, 0, 0]])
        self.assertEqual(self.delivered(), [told((UP, 1, 7), 5, 3, SEEKING)])

    def test_what_is_forged_elsewhere_comes_out_elsewhere(self):
        before = self.call(CLIENT, 5)
        self.done(FORGE, 1, 8, 5, 1, SEEKING, -1, 0, 0)
        self.done(FLOW, 8)
        self.assertEqual([message[:3] for message in self.peeked()], [[OUT, 1, 8]] * 2)
        self.done(FLOW, 2)
        self.assertEqual(self.call(CLIENT, 5), before)

    def test_at_another_relay_nothing_is_assigned(self):
        self.done(FORGE, 0, 7, 5, 1, SEEKING, -1, 0, 0)
        self.assertEqual(self.call(FLOW, 100), [0, 3])
        self.done(FORGE, 0, 7, 5, 1, ASKING, 0, 40, 0)
        self.done(FLOW, 1)
        self.assertEqual(self.delivered(), [told((DOWN, 0, 0), 5, 1, NO, 0, marks=((0, 7),))])

    def test_marks_that_feign_a_way_are_of_no_use(self):
        for relay, circuit, further in ((0, 7, (1, 1, 7)), (0, 7, (0, 1, 7)), (1, 8, (0, 1, 7)), (0, 7, (1,))):
            self.done(FORGE, relay, circuit, 5, 1, ASKING, 0, 40, *further)
            self.assertEqual(self.delivered(), [])
        self.assertEqual(self.call(WRITTEN, 0, 5), [0, 0])

    def test_each_kind_goes_up_to_the_servers(self):
        for kind in (SEEKING, OFFER, ASKING, YES, NO):
            self.done(FORGE, 0, 7, 5, 1, kind, 1, 40, 0)
            self.assertEqual(self.delivered(), [
                told((AT_SERVER, server, 0), 5, 1, kind, 1, 40, hops=1, marks=((0, 7),)) for server in (0, 1)])
            self.done(FLOW, 100)
