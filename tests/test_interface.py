"""relayleases.world.answers: how calls and answers are laid in one list, and that nothing is kept."""

import unittest

from relayleases.world import answers
from tests.helper import (ASSIGN, BEGIN, FORGET, OFF, ON, PLUG, RELAY, REST, TICK, UNPLUG, WITHDRAW, laid)


class AnswersTest(unittest.TestCase):
    def test_one_call(self):
        self.assertEqual(answers([0, 3, 1, 1, 0, 0]), [1, 0])
        self.assertEqual(answers([0, 3, 0, 1, 0, 0]), [1, -1])
        self.assertEqual(answers([10, 1, 5, 0]), [1, -9])

    def test_every_call_in_one_list(self):
        calls = [3, 1, 5, 0] + [0, 3, 2, 10, 100, 0] + [1, 3, 0, 7, 16, 0] + [2, 3, 5, 1, 9, 0] + [4, 1, 5, 0]
        calls += [10, 1, 30, 0] + [5, 1, 5, 0] + [6, 1, 5, 0] + [7, 5, 1, 5, 1, 40, 50, 0] + [8, 3, 1, 5, 1, 0]
        calls += [8, 3, 1, 5, 1, 0] + [9, 2, 1, 1, 0] + [9, 2, 2, 1, 0] + [3, 1, 5, 0]
        self.assertEqual(answers(calls), [1, -9, 1, 0, 2, 0, 1, 1, 0, 1, 0, 3, 0, 130, 3, 1, 0, 1, 0, 1, 0, 1, 0,
                                          1, -2, 1, 0, 1, -1, 1, 0])

    def test_what_is_handed_in_is_not_changed_and_nothing_is_kept(self):
        calls = laid(BEGIN, 4, 3, 1000) + laid(RELAY, 0, 1, 5)
        for host in (9, 3, 7):
            calls += laid(PLUG, host, 1, host) + laid(ON, host)
        calls += laid(ASSIGN, 0, 9, 1, 1, 1) + laid(WITHDRAW, 0, 9, 1) + laid(REST, 1, 1) + laid(TICK, 500)
        calls += laid(UNPLUG, 9) + laid(OFF, 9) + laid(FORGET, 9) + laid(BEGIN, 1, 1, 5) + laid(TICK, 5)
        before = list(calls)
        first = answers(calls)
        self.assertEqual(calls, before)
        second = answers(calls)
        self.assertEqual(calls, before)
        self.assertEqual(first, second)
        self.assertIsNot(first, second)

    def test_no_world_is_left_from_the_time_before(self):
        answers(laid(BEGIN, 1, 1, 5))
        self.assertEqual(answers(laid(TICK, 5)), [1, -9])

    def test_the_answers_are_whole_numbers(self):
        calls = laid(BEGIN, 1, 1, 5) + laid(PLUG, 1, 0, 0) + laid(ON, 1) + laid(REST, 0, 1) + laid(TICK, 9)
        given = answers(calls)
        self.assertIs(type(given), list)
        self.assertEqual({type(number) for number in given}, {int})

    def test_400_calls(self):
        calls = laid(BEGIN, 1, 1, 5)
        for step in range(399):
            calls += laid(TICK, step)
        given = answers(calls)
        self.assertEqual(len(given), 2 + 399 * 4)
        self.assertEqual(given[-4:], [3, 0, 5 + 399 * 398 // 2, 0])
