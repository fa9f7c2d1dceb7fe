"""deliver, lose, double, flow and peek (points 11 to 14 and 18)."""

from tests.helper import (ASKING, ASSIGN, AT_SERVER, BEGIN, CLIENT, DELIVER, DOUBLE, DOWN, FLOW, LOSE, NO, OFF, OFFER,
                          ON, OUT, PEEK, PLUG, RELAY, SEEKING, STATE, TICK, UP, YES, LineTest, shown, told)


class BagTest(LineTest):
    """Hosts 1 to 4 are plugged at circuits 1 to 4 of relay 0."""

    def setUp(self):
        LineTest.setUp(self)
        self.lay_out(2, 8)

    def lay_out(self, servers, cap):
        self.done(BEGIN, servers, cap, 100)
        for host in (1, 2, 3, 4):
            self.done(PLUG, host, 0, host)

    def turn_on(self, *hosts):
        for host in hosts:
            self.done(ON, host)

    def hosts(self):
        return [message[3] for message in self.peeked()]


class DeliverTest(BagTest):
    def test_the_row_of_several_messages(self):
        self.turn_on(1)
        self.assertEqual(self.call(DELIVER, 0), [
            0, 2,
            13, 1, 0, 0, 1, 1, 1, -1, 0, 0, 1, 1, 0, 1,
            13, 1, 1, 0, 1, 1, 1, -1, 0, 0, 1, 1, 0, 1])

    def test_the_row_of_none(self):
        self.turn_on(1)
        self.done(DELIVER, 0)
        self.assertEqual(self.call(DELIVER, 0), [0, 0])
        self.assertEqual(self.call(DELIVER, 0), [0, 0])
        self.refused(-1, DELIVER, 0)

    def test_those_behind_it_move_up(self):
        for k, left in ((0, [2, 3, 4]), (1, [1, 3, 4]), (3, [1, 2, 3])):
            self.lay_out(1, 8)
            self.turn_on(1, 2, 3, 4)
            self.assertEqual(len(self.delivered(k)), 1)
            self.assertEqual(self.hosts(), left + [k + 1])

    def test_nothing_else_in_the_bag_is_touched(self):
        self.turn_on(1, 2, 3)
        before = self.peeked()
        put = self.delivered(1)
        self.assertEqual(self.peeked(), [before[0], before[2]] + put)

    def test_lost_ones_are_not_counted(self):
        self.lay_out(4, 4)
        self.turn_on(1, 2, 3, 4)
        self.assertEqual(self.call(DELIVER, 1), [0, 1, 13, 1, 0, 0, 2, 1, 1, -1, 0, 0, 1, 1, 0, 2])
        self.done(LOSE, 0)
        self.assertEqual(self.call(DELIVER, 0)[:2], [0, 2])

    def test_a_clients_own_is_counted(self):
        self.done(ASSIGN, 0, 1, 0, 50, 4)
        self.turn_on(1)
        # The offer is heard, the client asks for it, and the yes is delivered when half of it is over.
        self.assertEqual(self.call(FLOW, 100), [0, 5])
        self.done(TICK, 4)
        self.assertEqual(self.call(FLOW, 4), [0, 4])
        self.assertEqual(self.peeked(), [told((OUT, 0, 1), 1, 2, YES, 0, 50, 4)])
        self.done(TICK, 2)
        self.assertEqual(self.call(DELIVER, 0), [0, 1, 11, UP, 0, 1, 1, 3, ASKING, 0, 50, 0, 0, 0])

    def test_a_seeking_that_follows_a_no_is_counted(self):
        self.done(ASSIGN, 0, 1, 0, 50, 100)
        self.turn_on(1)
        self.done(FLOW, 100)
        self.done(TICK, 4)
        self.done(ASSIGN, 0, 1, 0, 51, 100)
        self.done(FLOW, 4)
        self.assertEqual(self.peeked(), [told((OUT, 0, 1), 1, 2, NO, 0)])
        self.assertEqual(self.call(DELIVER, 0), [0, 1, 11, UP, 0, 1, 1, 3, SEEKING, -1, 0, 0, 0, 0])

    def test_each_step_of_a_way(self):
        self.done(ASSIGN, 1, 1, 0, 50, 100)
        self.turn_on(1)
        at_servers = self.delivered(0)
        self.assertEqual([message[:2] for message in at_servers], [[AT_SERVER, 0], [AT_SERVER, 1]])
        self.assertEqual(self.delivered(0), [])
        self.assertEqual(self.delivered(0), [told((DOWN, 0, 0), 1, 1, OFFER, 1, 50, 100, marks=((0, 1),))])
        self.assertEqual(self.delivered(0), [told((OUT, 0, 1), 1, 1, OFFER, 1, 50, 100)])
        self.assertEqual(self.delivered(0), [])
        self.assertEqual(self.call(CLIENT, 1), [0, 1, 1, 1, 100, 0, 104, 0, 1, 1, 50, 100, -1, 0, 0, 0, 0])

    def test_an_empty_bag(self):
        for k in (0, -1, 1):
            self.refused(-1, DELIVER, k)


class LoseTest(BagTest):
    def test_it_leaves_the_bag_and_nothing_comes_of_it(self):
        for k, left in ((0, [2, 3, 4]), (1, [1, 3, 4]), (2, [1, 2, 4]), (3, [1, 2, 3])):
            self.lay_out(2, 8)
            self.turn_on(1, 2, 3, 4)
            clients = shown(self.world.clients)
            self.assertEqual(self.call(LOSE, k), [0])
            self.assertEqual(self.hosts(), left)
            self.assertEqual(shown(self.world.clients), clients)

    def test_to_the_last(self):
        self.turn_on(1, 2)
        self.refused(-1, LOSE, 2)
        self.assertEqual(self.call(LOSE, 1), [0])
        self.refused(-1, LOSE, 1)
        self.assertEqual(self.call(LOSE, 0), [0])
        self.refused(-1, LOSE, 0)
        self.assertEqual(self.call(STATE), [0, 100, 0, 1, 4])


class DoubleTest(BagTest):
    def test_a_copy_is_put_at_the_end(self):
        self.turn_on(1, 2, 3)
        self.assertEqual(self.call(DOUBLE, 1), [0])
        messages = self.peeked()
        self.assertEqual(self.hosts(), [1, 2, 3, 2])
        self.assertEqual(messages[1], messages[3])

    def test_the_first_the_last_and_a_copy(self):
        self.turn_on(1, 2)
        for k in (0, 1, 3, 2):
            self.assertEqual(self.call(DOUBLE, k), [0])
        self.assertEqual(self.hosts(), [1, 2, 1, 2, 2, 1])

    def test_each_goes_its_own_way(self):
        self.done(RELAY, 0, 9, 16)
        self.done(PLUG, 7, 1, 7)
        self.turn_on(7)
        self.done(DOUBLE, 0)
        first = self.delivered(0)
        self.assertEqual(first, [told((UP, 0, 9), 7, 1, SEEKING, hops=1, marks=((1, 7),))])
        self.assertEqual(self.peeked()[0], told((UP, 1, 7), 7, 1, SEEKING))
        self.assertEqual(self.delivered(0), first)

    def test_a_full_bag(self):
        self.lay_out(1, 3)
        self.turn_on(1, 2)
        self.assertEqual(self.call(DOUBLE, 0), [0])
        self.refused(-3, DOUBLE, 0)
        self.refused(-3, DOUBLE, 2)
        self.refused(-1, DOUBLE, 3)
        self.done(LOSE, 0)
        self.assertEqual(self.call(DOUBLE, 0), [0])
        self.assertEqual(self.hosts(), [2, 1, 2])

    def test_a_bag_for_one(self):
        self.lay_out(1, 1)
        self.refused(-1, DOUBLE, 0)
        self.turn_on(1)
        self.refused(-3, DOUBLE, 0)

    def test_marks_and_all_else_are_copied(self):
        self.done(ASSIGN, 1, 1, 0, 50, 100)
        self.turn_on(1)
        self.done(FLOW, 3)
        self.done(DOUBLE, 0)
        offer = told((DOWN, 0, 0), 1, 1, OFFER, 1, 50, 100, marks=((0, 1),))
        self.assertEqual(self.peeked(), [offer, offer])


class FlowTest(BagTest):
    def test_none(self):
        self.turn_on(1, 2)
        before = shown(self.world)
        self.assertEqual(self.call(FLOW, 0), [0, 0])
        self.assertEqual(shown(self.world), before)

    def test_an_empty_bag(self):
        self.assertEqual(self.call(FLOW, 0), [0, 0])
        self.assertEqual(self.call(FLOW, 1000), [0, 0])

    def test_the_oldest_first(self):
        self.lay_out(1, 8)
        self.turn_on(1, 2, 3)
        self.assertEqual(self.call(FLOW, 2), [0, 2])
        self.assertEqual([(message[0], message[3]) for message in self.peeked()],
                         [(UP, 3), (AT_SERVER, 1), (AT_SERVER, 2)])

    def test_just_as_many_as_there_are_to_deliver_one_less_and_one_more(self):
        # One seeking and a copy at each of two servers, where nothing comes of them.
        for most, delivered, left in ((1, 1, 2), (2, 2, 1), (3, 3, 0), (4, 3, 0), (1000, 3, 0)):
            self.lay_out(2, 8)
            self.turn_on(1)
            self.assertEqual(self.call(FLOW, most), [0, delivered])
            self.assertEqual(self.call(STATE)[2], left)

    def test_messages_that_are_put_meanwhile_are_delivered_too(self):
        self.done(ASSIGN, 1, 1, 0, 50, 100)
        self.turn_on(1)
        self.assertEqual(self.call(FLOW, 1000), [0, 5])
        self.assertEqual(self.call(CLIENT, 1)[9:12], [1, 50, 100])

    def test_it_is_the_same_as_delivering_one_by_one(self):
        worlds = []
        for by_flow in (True, False):
            self.lay_out(2, 8)
            for host in (1, 2):
                for server in (0, 1):
                    self.done(ASSIGN, server, host, 0, 50 + host, 100 + server)
            self.turn_on(1, 2)
            for pause in (0, 4, 30):
                self.done(TICK, pause)
                if by_flow:
                    self.assertEqual(self.call(FLOW, 7), [0, 7])
                else:
                    for step in range(7):
                        self.done(DELIVER, 0)
            worlds.append(shown(self.world))
        self.assertEqual(worlds[0], worlds[1])

    def test_no_more_than_1000(self):
        self.lay_out(4, 10000)
        self.turn_on(1, 2, 3, 4)
        self.done(TICK, 20000)
        messages = self.call(STATE)[2]
        self.assertGreater(messages, 1000)
        self.assertEqual(self.call(FLOW, 1000), [0, 1000])
        self.assertEqual(self.call(STATE)[2], messages + 3000)
        self.refused(-1, FLOW, 1001)

    def test_a_full_bag_loses_while_it_flows(self):
        self.lay_out(4, 3)
        self.turn_on(1, 2, 3)
        # Each seeking makes room for one copy alone, and nothing comes of the copies.
        self.assertEqual(self.call(FLOW, 1000), [0, 6])


class PeekTest(BagTest):
    def test_a_message_at_each_kind_of_place(self):
        self.lay_out(1, 8)
        self.done(RELAY, 0, 9, 16)
        self.done(PLUG, 7, 1, 4095)
        self.done(ASSIGN, 0, 7, 1, 50, 100)
        self.turn_on(7)
        for numbers in (
                [UP, 1, 4095, 7, 1, SEEKING, -1, 0, 0, 0, 0],
                [UP, 0, 9, 7, 1, SEEKING, -1, 0, 0, 1, 1, 1, 4095],
                [AT_SERVER, 0, 0, 7, 1, SEEKING, -1, 0, 0, 2, 2, 0, 9, 1, 4095],
                [DOWN, 0, 0, 7, 1, OFFER, 0, 50, 100, 0, 2, 0, 9, 1, 4095],
                [DOWN, 1, 0, 7, 1, OFFER, 0, 50, 100, 0, 1, 1, 4095],
                [OUT, 1, 4095, 7, 1, OFFER, 0, 50, 100, 0, 0]):
            self.assertEqual(self.call(PEEK, 0), [0] + numbers)
            self.done(DELIVER, 0)
        self.refused(-1, PEEK, 0)

    def test_by_its_place_in_the_bag(self):
        self.turn_on(3, 1, 2)
        self.assertEqual([self.call(PEEK, k)[4] for k in (0, 1, 2, 0)], [3, 1, 2, 3])
        self.refused(-1, PEEK, 3)

    def test_nothing_is_changed(self):
        self.turn_on(3, 1)
        before = shown(self.world)
        self.done(PEEK, 1)
        self.assertEqual(shown(self.world), before)

    def test_a_message_of_a_client_that_is_off_meanwhile(self):
        self.turn_on(3)
        self.done(OFF, 3)
        self.assertEqual(self.call(PEEK, 0), [0] + told((UP, 0, 3), 3, 1, SEEKING))
