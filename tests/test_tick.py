"""tick (point 10): time, the order in which clients act, and their waits."""

from tests.helper import BEGIN, LAST_HOST, LAST_TIME, OFF, ON, PLUG, TICK, UNPLUG, LineTest

# When a client that is turned on at 0 acts as long as nobody answers it.
DUES = (4, 13, 28, 60, 125, 188, 252, 317, 380, 444, 509, 572, 636, 701)


class TickTest(LineTest):
    def test_without_clients(self):
        self.done(BEGIN, 1, 1, 7)
        self.assertEqual(self.call(TICK, 0), [0, 7, 0])
        self.assertEqual(self.call(TICK, 20000), [0, 20007, 0])
        self.assertEqual(self.call(TICK, 1), [0, 20008, 0])

    def test_the_waits_with_tries_and_counter(self):
        self.done(BEGIN, 1, 100, 0)
        self.done(PLUG, 5, 0, 7)
        self.done(ON, 5)
        now = 0
        for count, due in enumerate(DUES, start=1):
            client = self.client(5)
            self.assertEqual((client.due, client.counter, client.tries), (due, count, min(count - 1, 10)))
            self.assertEqual(self.call(TICK, due - 1 - now), [0, due - 1, 0])
            self.assertEqual(self.call(TICK, 1), [0, due, 1])
            self.assertEqual(self.client(5).sent, due)
            now = due

    def test_many_acts_in_one_tick(self):
        self.done(BEGIN, 1, 100, 0)
        self.done(PLUG, 5, 0, 7)
        self.done(ON, 5)
        self.assertEqual(self.call(TICK, DUES[-1]), [0, DUES[-1], len(DUES)])
        self.assertEqual(self.bag(), [((0, 0, 7), 5, number, 1, None, 0, 0, 0, ())
                                      for number in range(1, len(DUES) + 2)])

    def test_one_less_than_the_due(self):
        self.done(BEGIN, 1, 100, 0)
        self.done(PLUG, 5, 0, 7)
        self.done(ON, 5)
        self.assertEqual(self.call(TICK, DUES[-1] - 1), [0, DUES[-1] - 1, len(DUES) - 1])
        self.assertEqual((self.world.now, self.client(5).sent), (DUES[-1] - 1, DUES[-2]))

    def test_now_while_a_client_acts_is_its_due(self):
        self.done(BEGIN, 1, 100, 1000)
        self.done(PLUG, 5, 0, 7)
        self.done(ON, 5)
        self.assertEqual(self.call(TICK, 10), [0, 1010, 1])
        client = self.client(5)
        self.assertEqual((client.sent, client.due, self.world.now), (1004, 1013, 1010))

    def test_the_earliest_due_acts_first(self):
        self.done(BEGIN, 1, 100, 0)
        for host in (1, 2):
            self.done(PLUG, host, 0, host)
        self.done(ON, 2)
        self.done(TICK, 1)
        self.done(ON, 1)
        self.assertEqual(self.call(TICK, 13), [0, 14, 4])
        self.assertEqual([(message[1], message[2]) for message in self.bag()],
                         [(2, 1), (1, 1), (2, 2), (1, 2), (2, 3), (1, 3)])

    def test_of_several_the_least_host_acts_first(self):
        self.done(BEGIN, 1, 100, 0)
        hosts = (40, LAST_HOST, 0, 7, 300)
        for host in hosts:
            self.done(PLUG, host, 0, 7)
            self.done(ON, host)
        self.assertEqual(self.call(TICK, 13), [0, 13, 10])
        self.assertEqual([message[1] for message in self.bag()], list(hosts) + sorted(hosts) * 2)

    def test_after_each_act_it_is_looked_again(self):
        self.done(BEGIN, 1, 100, 0)
        self.done(PLUG, 1, 0, 7)
        self.done(PLUG, 9, 0, 7)
        self.done(ON, 9)
        self.done(TICK, 24)
        # Host 1 is due at 28 as host 9 is and acts first; its next due is 37, that of host 9 is 60.
        self.done(ON, 1)
        self.done(TICK, 20)
        self.assertEqual([(message[1], message[2]) for message in self.bag()],
                         [(9, 1), (9, 2), (9, 3), (1, 1), (1, 2), (9, 4), (1, 3)])

    def test_clients_that_are_off_do_not_act(self):
        self.done(BEGIN, 1, 100, 0)
        for host in (1, 2, 3):
            self.done(PLUG, host, 0, 7)
        self.done(ON, 1)
        self.done(ON, 3)
        self.done(OFF, 1)
        self.assertEqual(self.call(TICK, 4), [0, 4, 1])

    def test_clients_that_are_plugged_nowhere_act(self):
        self.done(BEGIN, 1, 100, 0)
        self.done(PLUG, 1, 0, 7)
        self.done(ON, 1)
        self.done(UNPLUG, 1)
        self.assertEqual(self.call(TICK, 60), [0, 60, 4])
        self.assertEqual(len(self.bag()), 1)
        self.assertEqual(self.client(1).counter, 5)

    def test_a_full_bag_loses_what_is_sent(self):
        self.done(BEGIN, 1, 3, 0)
        for host in (1, 2):
            self.done(PLUG, host, 0, 7)
            self.done(ON, host)
        self.assertEqual(self.call(TICK, 4), [0, 4, 2])
        self.assertEqual([(message[1], message[2]) for message in self.bag()], [(1, 1), (2, 1), (1, 2)])
        self.assertEqual((self.client(2).counter, self.client(2).awaited, self.client(2).due), (2, 2, 13))

    def test_a_bag_for_one(self):
        self.done(BEGIN, 1, 1, 0)
        for host in (1, 2):
            self.done(PLUG, host, 0, 7)
            self.done(ON, host)
        self.assertEqual([message[1] for message in self.bag()], [1])

    def test_the_end_of_time(self):
        self.done(BEGIN, 1, 100, LAST_TIME - 20000)
        self.done(PLUG, 1, 0, 7)
        self.done(TICK, 1)
        self.done(ON, 1)
        self.refused(-2, TICK, 20000)
        self.assertEqual(self.call(TICK, 19995), [0, LAST_TIME - 4, 315])
        self.refused(-2, TICK, 5)
        self.assertEqual(self.call(TICK, 4)[:2], [0, LAST_TIME])
        self.assertEqual(self.call(TICK, 0), [0, LAST_TIME, 0])
        self.refused(-2, TICK, 1)

    def test_a_due_at_the_end_of_time_and_beyond(self):
        self.done(BEGIN, 1, 100, LAST_TIME - 4)
        self.done(PLUG, 1, 0, 7)
        self.done(ON, 1)
        self.assertEqual(self.call(TICK, 4), [0, LAST_TIME, 1])
        self.assertEqual(self.client(1).due, LAST_TIME + 9)
        self.refused(-2, TICK, 9)

    def test_the_longest_tick_of_the_most_clients(self):
        self.done(BEGIN, 4, 10000, 0)
        for host in range(64):
            self.done(PLUG, host, 0, host)
            self.done(ON, host)
        self.assertEqual(self.call(TICK, 20000), [0, 20000, 64 * 315])
        self.assertEqual(len(self.world.bag), 10000)
