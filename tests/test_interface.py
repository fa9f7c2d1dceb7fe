"""relayleases.world.answers: how calls and answers are laid in one list, and that nothing is kept."""

import unittest

from relayleases.world import answers
from tests.helper import (ASSIGN, BEGIN, CLIENT, DELIVER, DOUBLE, FLOW, FORGE, FORGET, LOSE, NEXT, OFF, ON, PATH, PEEK,
                          PLUG, RELAY, REST, STATE, TICK, UNPLUG, WITHDRAW, WRITTEN, laid, rows_of)

# Every call is in this list, each with the row it answers.
WHOLE = (
    ((STATE,), [-9]),
    ((BEGIN, 2, 6, 100), [0]),
    ((RELAY, 0, 11, 16), [0, 1]),
    ((PLUG, 5, 1, 7), [0]),
    ((ASSIGN, 0, 5, 1, 40, 800), [0]),
    ((ASSIGN, 1, 5, 1, 41, 900), [0]),
    ((ON, 5), [0]),
    ((PEEK, 0), [0, 0, 1, 7, 5, 1, 1, -1, 0, 0, 0, 0]),
    ((PATH, 1, 7), [0, 2, 0, 11, 1, 7]),
    ((DELIVER, 0), [0, 1, 13, 0, 0, 11, 5, 1, 1, -1, 0, 0, 1, 1, 1, 7]),
    ((DELIVER, 0), [0, 2, 15, 1, 0, 0, 5, 1, 1, -1, 0, 0, 2, 2, 0, 11, 1, 7,
                    15, 1, 1, 0, 5, 1, 1, -1, 0, 0, 2, 2, 0, 11, 1, 7]),
    ((DOUBLE, 1), [0]),
    ((REST, 0, 1), [0]),
    ((DELIVER, 0), [0, 0]),
    ((LOSE, 0), [0]),
    ((FLOW, 1000), [0, 4]),
    ((CLIENT, 5), [0, 1, 1, 1, 100, 0, 104, 1, 7, 1, 41, 900, -1, 0, 0, 0, 0]),
    ((NEXT,), [0, 104]),
    ((TICK, 4), [0, 104, 1]),
    ((FLOW, 1000), [0, 7]),
    ((WRITTEN, 1, 5), [0, 1, 41, 1004]),
    ((WRITTEN, 0, 5), [0, 0]),
    ((FORGE, 1, 9, 5, 2, 3, 1, 41, 3, 4095, 0), [0]),
    ((FORGE, 1, 9, 5, 2, 3, 1, 41, 3, 4095), [-1]),
    ((FORGE, 1, 9, 5, 3, 3, 1, 41, 3), [-3]),
    ((PEEK, 0), [0, 0, 1, 9, 5, 2, 3, 1, 41, 0, 3, 1, 4095, 0]),
    ((STATE,), [0, 104, 1, 2, 1]),
    ((OFF, 5), [0]),
    ((CLIENT, 5), [0, 0, 2, 0, 0, 0, -1, 1, 7, -1, 0, 0, 1, 41, 554, 891, 1004]),
    ((FORGET, 5), [0]),
    ((UNPLUG, 5), [0]),
    ((WITHDRAW, 1, 5, 1), [0]),
    ((CLIENT, 5), [0, 0, 2, 0, 0, 0, -1, -1, -1, -1, 0, 0, -1, 0, 0, 0, 0]),
    ((NEXT,), [0, -1]),
    ((BEGIN, 1, 1, 5), [0]),
    ((CLIENT, 5), [-2]),
    ((STATE,), [0, 5, 0, 1, 0]),
)


class WholeTest(unittest.TestCase):
    def setUp(self):
        self.calls = [number for call, row in WHOLE for number in laid(*call)]

    def test_every_call_is_there(self):
        self.assertEqual({call[0] for call, row in WHOLE}, set(range(22)))

    def test_the_rows(self):
        self.assertEqual(rows_of(answers(self.calls)), [row for call, row in WHOLE])

    def test_the_list_is_the_same_afterwards_and_is_answered_the_same_again(self):
        before = list(self.calls)
        first = answers(self.calls)
        self.assertEqual(self.calls, before)
        kept = list(first)
        second = answers(self.calls)
        self.assertEqual(self.calls, before)
        self.assertEqual(first, second)
        # What was given back is the caller's own.
        first.clear()
        self.assertEqual(second, kept)
        self.assertEqual(answers(self.calls), kept)

    def test_each_beginning_of_the_list_is_answered_by_the_beginning_of_the_rows(self):
        for count in range(1, len(WHOLE) + 1):
            calls = [number for call, row in WHOLE[:count] for number in laid(*call)]
            self.assertEqual(rows_of(answers(calls)), [row for call, row in WHOLE[:count]])

    def test_the_answers_are_whole_numbers(self):
        self.assertEqual({number.__class__ for number in answers(self.calls)}, {int})


class FurtherNumbersTest(unittest.TestCase):
    def test_any_count_of_further_numbers_and_what_follows_them(self):
        ahead = laid(BEGIN, 1, 10, 0) + laid(PLUG, 5, 0, 7) + laid(ON, 5)
        for count in range(92):
            calls = ahead + laid(FORGE, 0, 7, 5, 1, 1, -1, 0, 0, *[3] * count) + laid(STATE)
            granted = count % 2 == 0 and count <= 32
            self.assertEqual(rows_of(answers(calls))[3:],
                             [[0], [0, 0, 2, 1, 1]] if granted else [[-1], [0, 0, 1, 1, 1]])

    def test_without_a_world(self):
        for count in (0, 1, 32, 33, 91):
            self.assertEqual(answers(laid(FORGE, 0, 7, 5, 1, 1, -1, 0, 0, *[3] * count)), [1, -9])

    def test_calls_without_numbers(self):
        self.assertEqual(answers([20, 0, 0, 21, 0, 0]), [1, -9, 1, -9])
        self.assertEqual(answers([0, 3, 1, 1, 0, 0, 20, 0, 0, 21, 0, 0]), [1, 0, 2, 0, -1, 5, 0, 0, 0, 1, 0])


class AnswersTest(unittest.TestCase):
    def test_one_call(self):
        self.assertEqual(answers([0, 3, 1, 1, 0, 0]), [1, 0])
        self.assertEqual(answers([0, 3, 0, 1, 0, 0]), [1, -1])
        self.assertEqual(answers([10, 1, 5, 0]), [1, -9])

    def test_calls_0_to_10_in_one_list(self):
        calls = [3, 1, 5, 0] + [0, 3, 2, 10, 100, 0] + [1, 3, 0, 7, 16, 0] + [2, 3, 5, 1, 9, 0] + [4, 1, 5, 0]
        calls += [10, 1, 30, 0] + [5, 1, 5, 0] + [6, 1, 5, 0] + [7, 5, 1, 5, 1, 40, 50, 0] + [8, 3, 1, 5, 1, 0]
        calls += [8, 3, 1, 5, 1, 0] + [9, 2, 1, 1, 0] + [9, 2, 2, 1, 0] + [3, 1, 5, 0]
        self.assertEqual(answers(calls), [1, -9, 1, 0, 2, 0, 1, 1, 0, 1, 0, 3, 0, 130, 3, 1, 0, 1, 0, 1, 0, 1, 0,
                                          1, -2, 1, 0, 1, -1, 1, 0])

    def test_what_is_handed_in_is_not_changed_and_nothing_is_kept(self):
        calls = laid(BEGIN, 4, 3, 1000) + laid(RELAY, 0, 1, 5)
        for host in (9, 3, 7):
            calls += laid(PLUG, host, 1, host) + laid(ON, host)
        calls += laid(ASSIGN, 0, 9, 1, 1, 1) + laid(WITHDRAW, 0, 9, 1) + laid(REST, 1, 1) + laid(TICK, 500)
        calls += laid(UNPLUG, 9) + laid(OFF, 9) + laid(FORGET, 9) + laid(BEGIN, 1, 1, 5) + laid(TICK, 5)
        before = list(calls)
        first = answers(calls)
        self.assertEqual(calls, before)
        second = answers(calls)
        self.assertEqual(calls, before)
        self.assertEqual(first, second)
        self.assertIsNot(first, second)

    def test_no_world_is_left_from_the_time_before(self):
        answers(laid(BEGIN, 1, 1, 5))
        self.assertEqual(answers(laid(TICK, 5)), [1, -9])

    def test_the_answers_are_whole_numbers(self):
        calls = laid(BEGIN, 1, 1, 5) + laid(PLUG, 1, 0, 0) + laid(ON, 1) + laid(REST, 0, 1) + laid(TICK, 9)
        given = answers(calls)
        self.assertIs(type(given), list)
        self.assertEqual({type(number) for number in given}, {int})

    def test_400_calls(self):
        calls = laid(BEGIN, 1, 1, 5)
        for step in range(399):
            calls += laid(TICK, step)
        given = answers(calls)
        self.assertEqual(len(given), 2 + 399 * 4)
        self.assertEqual(given[-4:], [3, 0, 5 + 399 * 398 // 2, 0])

    def test_the_longest_rows(self):
        # Sixteen relays deep, four servers: each of the four copies has sixteen marks.
        calls = laid(BEGIN, 4, 10000, 0)
        for parent in range(15):
            calls += laid(RELAY, parent, 0, 16)
        calls += laid(PLUG, 5, 15, 0) + laid(ON, 5) + laid(FLOW, 15) + laid(DELIVER, 0)
        row = rows_of(answers(calls))[-1]
        self.assertEqual((row[1], row[2], len(row)), (4, 43, 2 + 4 * 44))
