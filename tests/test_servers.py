"""assign, withdraw and rest (points 7 to 9)."""

from tests.helper import ASSIGN, BEGIN, LAST_ADDRESS, LONGEST, PLUG, RELAY, REST, WITHDRAW, LineTest, shown


class ServersTest(LineTest):
    def setUp(self):
        LineTest.setUp(self)
        self.done(BEGIN, 4, 10, 0)
        self.done(RELAY, 0, 1, 16)


class AssignTest(ServersTest):
    def test_rows_for_server_host_and_relay(self):
        self.assertEqual(self.call(ASSIGN, 0, 5, 0, 0, 1), [0])
        self.assertEqual(self.call(ASSIGN, 1, 5, 0, 10, 20), [0])
        self.assertEqual(self.call(ASSIGN, 0, 6, 0, 10, 20), [0])
        self.assertEqual(self.call(ASSIGN, 0, 5, 1, LAST_ADDRESS, LONGEST), [0])
        self.assertEqual(self.world.assigned, {(0, 5, 0): (0, 1), (1, 5, 0): (10, 20), (0, 6, 0): (10, 20),
                                               (0, 5, 1): (LAST_ADDRESS, LONGEST)})

    def test_the_host_need_not_be_a_client(self):
        self.done(PLUG, 6, 0, 7)
        self.assertEqual(self.call(ASSIGN, 0, 5, 0, 10, 20), [0])
        self.assertEqual(list(self.world.clients), [6])

    def test_a_row_is_replaced(self):
        self.done(ASSIGN, 0, 5, 0, 10, 20)
        self.assertEqual(self.call(ASSIGN, 0, 5, 0, 11, 21), [0])
        self.assertEqual(self.world.assigned, {(0, 5, 0): (11, 21)})

    def test_no_more_than_128_rows(self):
        for row in range(128):
            self.assertEqual(self.call(ASSIGN, row % 4, row // 8, row // 4 % 2, row, 1), [0])
        self.refused(-2, ASSIGN, 0, 16, 0, 1, 1)
        self.assertEqual(self.call(ASSIGN, 3, 15, 1, 500, 9), [0])
        self.assertEqual(self.world.assigned[(3, 15, 1)], (500, 9))
        self.assertEqual(len(self.world.assigned), 128)
        self.refused(-2, ASSIGN, 3, 16, 1, 1, 1)
        self.done(WITHDRAW, 0, 0, 0)
        self.assertEqual(self.call(ASSIGN, 0, 16, 0, 1, 1), [0])
        self.refused(-2, ASSIGN, 0, 0, 0, 1, 1)

    def test_nothing_else_is_changed(self):
        before = shown(self.world)
        self.done(ASSIGN, 0, 5, 0, 10, 20)
        before["assigned"] = {(0, 5, 0): (10, 20)}
        self.assertEqual(shown(self.world), before)


class WithdrawTest(ServersTest):
    def test_the_one_row_goes(self):
        self.done(ASSIGN, 0, 5, 0, 10, 20)
        self.done(ASSIGN, 1, 5, 0, 11, 21)
        self.assertEqual(self.call(WITHDRAW, 0, 5, 0), [0])
        self.assertEqual(self.world.assigned, {(1, 5, 0): (11, 21)})

    def test_what_is_not_assigned(self):
        self.refused(-2, WITHDRAW, 0, 5, 0)
        self.done(ASSIGN, 0, 5, 0, 10, 20)
        self.refused(-2, WITHDRAW, 1, 5, 0)
        self.refused(-2, WITHDRAW, 0, 6, 0)
        self.refused(-2, WITHDRAW, 0, 5, 1)
        self.done(WITHDRAW, 0, 5, 0)
        self.refused(-2, WITHDRAW, 0, 5, 0)

    def test_assigned_again(self):
        self.done(ASSIGN, 0, 5, 0, 10, 20)
        self.done(WITHDRAW, 0, 5, 0)
        self.assertEqual(self.call(ASSIGN, 0, 5, 0, 12, 22), [0])
        self.assertEqual(self.world.assigned, {(0, 5, 0): (12, 22)})
        self.assertEqual(self.call(WITHDRAW, 0, 5, 0), [0])

    def test_what_is_written_stays(self):
        self.done(ASSIGN, 0, 5, 0, 10, 20)
        self.by_hand = True
        self.world.written[(0, 5, 10)] = 20
        before = shown(self.world)
        self.done(WITHDRAW, 0, 5, 0)
        before["assigned"] = {}
        self.assertEqual(shown(self.world), before)


class RestTest(ServersTest):
    def test_each_server_by_itself(self):
        self.assertEqual(self.call(REST, 0, 1), [0])
        self.assertEqual(self.call(REST, 3, 1), [0])
        self.assertEqual(self.world.resting, [True, False, False, True])
        self.assertEqual(self.call(REST, 0, 0), [0])
        self.assertEqual(self.world.resting, [False, False, False, True])

    def test_twice_the_same(self):
        self.assertEqual(self.call(REST, 1, 0), [0])
        self.assertEqual(self.world.resting, [False] * 4)
        self.done(REST, 1, 1)
        self.assertEqual(self.call(REST, 1, 1), [0])
        self.assertEqual(self.world.resting, [False, True, False, False])

    def test_only_0_and_1(self):
        self.refused(-1, REST, 0, 2)
        self.refused(-1, REST, 0, -1)
