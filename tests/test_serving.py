"""What servers do with messages."""

from tests.helper import (ASKING, ASSIGN, AT_SERVER, BEGIN, DELIVER, DOUBLE, DOWN, FLOW, FORGE, LOSE, NO, OFF, OFFER,
                          ON, PLUG, RELAY, REST, SEEKING, TICK, WITHDRAW, WRITTEN, YES, LineTest, shown, told)

MARKS = ((0, 11), (1, 7))


class ServerTest(LineTest):
    """A world with three servers; host 5 is plugged at relay 1, which hangs on circuit 11 of relay 0.

    It sent one message and is off, so that what is heard and what time does are of no account here.
    """

    def setUp(self):
        LineTest.setUp(self)
        self.done(BEGIN, 3, 10, 1000)
        self.done(RELAY, 0, 11, 16)
        self.done(RELAY, 1, 12, 16)
        self.done(PLUG, 5, 1, 7)
        self.done(ON, 5)
        self.done(OFF, 5)
        self.done(FLOW, 100)

    def brought(self, kind, server=-1, address=0):
        """A stranger's message in host 5's name is brought to the servers: three copies in the bag."""
        self.done(FORGE, 1, 7, 5, 1, kind, server, address, 0)
        self.assertEqual(self.call(FLOW, 2), [0, 2])
        self.assertEqual(self.peeked(), [
            told((AT_SERVER, at, 0), 5, 1, kind, server, address, hops=2, marks=MARKS) for at in range(3)])

    def answered(self, at):
        """What server at puts when its copy is delivered; it and what was put leave the bag."""
        for k, message in enumerate(self.peeked()):
            if message[:2] == [AT_SERVER, at]:
                put = self.delivered(k)
                if put:
                    self.done(LOSE, len(self.world.bag) - 1)
                return put
        self.fail("no message at that server")

    def answer(self, at, kind, address=0, length=0):
        return [told((DOWN, 0, 0), 5, 1, kind, at, address, length, marks=MARKS)]


class SeekingTest(ServerTest):
    def test_with_something_assigned(self):
        self.done(ASSIGN, 0, 5, 1, 40, 300)
        self.done(ASSIGN, 2, 5, 1, 0, 1)
        self.brought(SEEKING)
        self.assertEqual(self.answered(0), self.answer(0, OFFER, 40, 300))
        self.assertEqual(self.answered(1), [])
        self.assertEqual(self.answered(2), self.answer(2, OFFER, 0, 1))
        self.assertEqual(self.world.written, {})

    def test_with_nothing_assigned_for_server_host_and_relay(self):
        self.done(ASSIGN, 1, 5, 0, 40, 300)
        self.done(ASSIGN, 1, 5, 2, 40, 300)
        self.done(ASSIGN, 1, 6, 1, 40, 300)
        self.done(ASSIGN, 2, 5, 0, 40, 300)
        self.brought(SEEKING)
        for at in range(3):
            self.assertEqual(self.answered(at), [])

    def test_a_seeking_that_names_a_server_or_an_address_is_answered_as_any_other(self):
        for at in range(3):
            self.done(ASSIGN, at, 5, 1, 40 + at, 300)
        self.brought(SEEKING, 1, 99)
        for at in range(3):
            self.assertEqual(self.answered(at), self.answer(at, OFFER, 40 + at, 300))

    def test_what_is_assigned_anew_and_withdrawn_while_a_message_is_under_way(self):
        self.done(ASSIGN, 0, 5, 1, 40, 300)
        self.done(ASSIGN, 1, 5, 1, 41, 300)
        self.brought(SEEKING)
        self.done(ASSIGN, 0, 5, 1, 50, 400)
        self.done(WITHDRAW, 1, 5, 1)
        self.done(ASSIGN, 2, 5, 1, 60, 500)
        self.assertEqual(self.answered(0), self.answer(0, OFFER, 50, 400))
        self.assertEqual(self.answered(1), [])
        self.assertEqual(self.answered(2), self.answer(2, OFFER, 60, 500))


class SilenceTest(ServerTest):
    def test_a_resting_server(self):
        for at in range(3):
            self.done(ASSIGN, at, 5, 1, 40, 300)
        self.done(REST, 1, 1)
        self.brought(SEEKING)
        self.assertEqual([len(self.answered(at)) for at in range(3)], [1, 0, 1])
        # -1 names none; a no is not given either
        for server, address in ((1, 40), (-1, 40), (1, 41), (-1, 41)):
            self.brought(ASKING, server, address)
            before = dict(self.world.written)
            self.assertEqual(self.answered(1), [])
            self.assertEqual(self.world.written, before)
            self.done(FLOW, 100)
        self.done(WITHDRAW, 1, 5, 1)
        self.brought(ASKING, 1, 40)
        self.assertEqual(self.answered(1), [])

    def test_rest_counts_when_the_message_is_delivered(self):
        self.done(ASSIGN, 0, 5, 1, 40, 300)
        self.done(ASSIGN, 1, 5, 1, 41, 300)
        self.done(REST, 0, 1)
        self.brought(SEEKING)
        self.done(REST, 0, 0)
        self.done(REST, 1, 1)
        self.assertEqual(self.answered(0), self.answer(0, OFFER, 40, 300))
        self.assertEqual(self.answered(1), [])

    def test_a_message_without_marks(self):
        self.done(ASSIGN, 0, 5, 1, 40, 300)
        self.done(ASSIGN, 0, 5, 0, 40, 300)
        for kind, server in ((SEEKING, None), (ASKING, None), (ASKING, 0)):
            before = shown(self.world)
            self.lay((AT_SERVER, 0, 0), 5, 1, kind, server, 40, hops=1)
            self.assertEqual(self.delivered(), [])
            self.assertEqual(shown(self.world), before)

    def test_other_kinds(self):
        self.done(ASSIGN, 0, 5, 1, 40, 300)
        for kind in (OFFER, YES, NO):
            for server in (-1, 0):
                self.brought(kind, server, 40)
                for at in range(3):
                    self.assertEqual(self.answered(at), [])
        self.assertEqual(self.world.written, {})


class OldestMarkTest(ServerTest):
    def test_the_oldest_of_several_marks_tells_the_relay(self):
        # Ways of one, two and three marks; at each relay another address is assigned.
        for relay in range(3):
            self.done(ASSIGN, 0, 5, relay, 40 + relay, 300)
        for relay, marks in ((0, ((0, 7),)), (1, ((0, 11), (1, 7))), (2, ((0, 11), (1, 12), (2, 7)))):
            self.done(FORGE, relay, 7, 5, 1, SEEKING, -1, 0, 0)
            self.done(FLOW, relay + 1)
            self.assertEqual(self.delivered(), [
                told((DOWN, 0, 0), 5, 1, OFFER, 0, 40 + relay, 300, marks=marks)])
            self.done(FLOW, 100)

    def test_a_mark_of_a_relay_that_is_not_there(self):
        self.lay((AT_SERVER, 0, 0), 5, 1, SEEKING, hops=2, marks=((0, 11), (4095, 7)))
        self.assertEqual(self.delivered(), [])


class AskingTest(ServerTest):
    def test_the_address_that_is_assigned(self):
        for at in range(3):
            self.done(ASSIGN, at, 5, 1, 40, 300 + at)
        self.brought(ASKING, 1, 40)
        self.assertEqual(self.answered(0), [])
        self.assertEqual(self.answered(1), self.answer(1, YES, 40, 301))
        self.assertEqual(self.answered(2), [])
        self.assertEqual([self.done(WRITTEN, at, 5) for at in range(3)], [[0], [1, 40, 1301], [0]])

    def test_an_asking_that_names_none_is_for_all(self):
        self.done(ASSIGN, 0, 5, 1, 40, 300)
        self.done(ASSIGN, 1, 5, 1, 41, 300)
        self.brought(ASKING, -1, 40)
        self.assertEqual(self.answered(0), self.answer(0, YES, 40, 300))
        self.assertEqual(self.answered(1), self.answer(1, NO))
        self.assertEqual(self.answered(2), [])
        self.assertEqual([self.done(WRITTEN, at, 5) for at in range(3)], [[1, 40, 1300], [0], [0]])

    def test_another_address_than_the_one_assigned(self):
        for address, asked in ((40, 41), (40, 0), (0, 40)):
            self.done(ASSIGN, 1, 5, 1, address, 300)
            self.brought(ASKING, 1, asked)
            self.assertEqual(self.answered(1), self.answer(1, NO))
            self.done(FLOW, 100)
        self.assertEqual(self.world.written, {})

    def test_address_0_is_one_as_any_other(self):
        self.done(ASSIGN, 1, 5, 1, 0, 300)
        self.brought(ASKING, 1, 0)
        self.assertEqual(self.answered(1), self.answer(1, YES, 0, 300))
        self.assertEqual(self.done(WRITTEN, 1, 5), [1, 0, 1300])

    def test_nothing_assigned(self):
        self.brought(ASKING, 1, 40)
        self.assertEqual([self.answered(at) for at in range(3)], [[], self.answer(1, NO), []])
        self.brought(ASKING, -1, 40)
        self.assertEqual([self.answered(at) for at in range(3)], [[], [], []])

    def test_an_asking_that_names_another_server(self):
        # 0 has it, 1 has another address, 2 has nothing; each is asked in the name of another one.
        self.done(ASSIGN, 0, 5, 1, 40, 300)
        self.done(ASSIGN, 1, 5, 1, 41, 300)
        for named in range(3):
            self.brought(ASKING, named, 40)
            self.assertEqual([self.answered(at) for at in range(3) if at != named], [[], []])
            self.done(FLOW, 100)

    def test_an_end_is_never_made_earlier(self):
        self.done(ASSIGN, 1, 5, 1, 40, 300)
        self.brought(ASKING, 1, 40)
        self.answered(1)
        self.done(FLOW, 100)
        # At the same time with a smaller len, an equal and a greater one; then later.
        for length, tick, end in ((299, 0, 1300), (300, 0, 1300), (301, 0, 1301), (200, 100, 1301), (200, 1, 1301),
                                  (200, 1, 1302), (1, 198, 1302), (2, 0, 1302), (3, 0, 1303)):
            self.done(TICK, tick)
            self.done(ASSIGN, 1, 5, 1, 40, length)
            self.brought(ASKING, 1, 40)
            # The yes tells the len that is assigned, whatever end is written.
            self.assertEqual(self.answered(1), self.answer(1, YES, 40, length))
            self.assertEqual(self.done(WRITTEN, 1, 5), [1, 40, end], (length, tick))
            self.done(FLOW, 100)

    def test_the_end_is_counted_from_when_the_message_is_delivered(self):
        self.done(ASSIGN, 1, 5, 1, 40, 300)
        self.brought(ASKING, 1, 40)
        self.done(TICK, 1)
        self.assertEqual(self.answered(1), self.answer(1, YES, 40, 300))
        self.assertEqual(self.done(WRITTEN, 1, 5), [1, 40, 1301])

    def test_withdrawn_while_the_message_is_under_way(self):
        self.done(ASSIGN, 0, 5, 1, 40, 300)
        self.done(ASSIGN, 1, 5, 1, 40, 300)
        self.brought(ASKING, 1, 40)
        self.done(WITHDRAW, 1, 5, 1)
        self.assertEqual(self.answered(1), self.answer(1, NO))
        self.done(FLOW, 100)
        self.brought(ASKING, -1, 40)
        self.done(WITHDRAW, 0, 5, 1)
        self.assertEqual([self.answered(at) for at in range(3)], [[], [], []])
        self.assertEqual(self.world.written, {})

    def test_withdrawn_behind_the_yes_what_is_written_stays(self):
        self.done(ASSIGN, 1, 5, 1, 40, 300)
        self.brought(ASKING, 1, 40)
        self.answered(1)
        self.done(WITHDRAW, 1, 5, 1)
        self.assertEqual(self.done(WRITTEN, 1, 5), [1, 40, 1300])

    def test_other_hosts_and_addresses_are_written_apart(self):
        self.done(ASSIGN, 1, 5, 1, 40, 300)
        self.brought(ASKING, 1, 40)
        self.answered(1)
        self.done(FLOW, 100)
        self.done(ASSIGN, 1, 5, 1, 30, 10)
        self.brought(ASKING, 1, 30)
        self.answered(1)
        self.assertEqual(self.done(WRITTEN, 1, 5), [2, 30, 1010, 40, 1300])
        self.assertEqual(self.done(WRITTEN, 1, 6), [0])

    def test_a_doubled_asking_is_answered_twice(self):
        self.done(ASSIGN, 1, 5, 1, 40, 300)
        self.brought(ASKING, 1, 40)
        self.done(DOUBLE, 1)
        self.assertEqual(self.answered(1), self.answer(1, YES, 40, 300))
        self.assertEqual(self.answered(1), self.answer(1, YES, 40, 300))
        self.assertEqual(self.done(WRITTEN, 1, 5), [1, 40, 1300])

    def test_an_answer_fits_into_a_bag_that_was_full(self):
        self.done(BEGIN, 3, 3, 1000)
        self.done(RELAY, 0, 11, 16)
        self.done(PLUG, 5, 1, 7)
        self.done(ON, 5)
        self.done(FLOW, 100)
        self.done(ASSIGN, 0, 5, 1, 40, 300)
        self.brought(ASKING, -1, 40)
        self.assertEqual(self.call(DELIVER, 0)[1], 1)
