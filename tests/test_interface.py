"""The interface: one list in, one list out; -11; calls that a later stage answers."""

import unittest

from asking import (EVEN, FOUR, GREATEST, THREE, TWO, after, apart, ask, bound, come, fewest, forebears, later_calls,
                    next_one, share, shares, start)
from fieldshares.wanderers import answers

OTHERS = [shares([1, 2]), shares([]), shares([GREATEST] * 60), come(0, 0, 1, 1), come(9, 9, 9, 0), share(0), share(9),
          next_one(), after(1, 0), after(5, 9), apart(0), apart(5), bound(0), bound(5), fewest(), forebears(0, 0, 0),
          forebears(5, 9, 9)]

LINE = (start(TWO) + shares([30, 7]) + come(0, 0, 1, 5) + share(0) + next_one() + after(2, 1) + apart(1) + bound(1)
        + fewest() + forebears(2, 0, 1) + share(2) + start([1]) + start(FOUR) + shares([1, 2, 3, 4]) + next_one()
        + share(3))


class OneList(unittest.TestCase):
    def test_counts_come_ahead(self):
        self.assertEqual(answers([0, 4, 90, 10, 20, 80]), [1, 2])
        self.assertEqual(answers([0, 4, 90, 10, 20, 80, 1, 2, 30, 7, 3, 0, 8, 2, 0, 0, 1, 5, 4, 3, 5, 5, 2, 1, 6, 0]),
                         [1, 2, 1, 0, 3, 0, 3, 10, 1, 10, 1, 15, 1, 0, 1, -22, 3, 0, 33067, 200000, 3, 0, 299, 2000])
        self.assertEqual(answers([8]), [1, -11])
        self.assertEqual(answers([0, 0]), [1, -22])

    def test_what_is_handed_in_stays(self):
        line = list(LINE)
        answers(line)
        self.assertEqual(line, LINE)

    def test_asked_twice_answered_twice_the_same(self):
        once = answers(LINE)
        self.assertEqual(answers([3, 0]), [1, -11])
        self.assertEqual(answers(LINE), once)

    def test_whole_numbers_in_a_new_list(self):
        given = answers(LINE)
        self.assertIs(type(given), list)
        self.assertEqual({type(number) for number in given}, {int})
        given.clear()
        self.assertNotEqual(answers(LINE), [])

    def test_two_hundred_calls_of_the_longest(self):
        longest = [0, 60] + [GREATEST] * 60
        self.assertEqual(answers(longest * 200), [1, -22] * 200)
        self.assertEqual(answers(start(EVEN) + [1, 60] + [0] * 60 + [3, 1] * 198), [1, 2, 1, -22] + [3, 0, 0, 1] * 198)


class NotStarted(unittest.TestCase):
    def test_each_call_alone(self):
        for call in OTHERS + later_calls():
            self.assertEqual(ask(call), [[-11]], call)

    def test_all_in_one_line(self):
        calls = OTHERS + later_calls()
        self.assertEqual(ask(*calls), [[-11]] * len(calls))

    def test_after_a_refused_start(self):
        for bad in ([], [100], TWO + [0], [99, 0, 0, 100], [0] * 60):
            for call in OTHERS + later_calls():
                self.assertEqual(ask(start(bad), call), [[-22], [-11]], call)

    def test_a_start_behind_them(self):
        self.assertEqual(ask(share(0), shares([1, 2]), start(TWO), share(0)), [[-11], [-11], [2], [0, 0, 1]])


class LaterCalls(unittest.TestCase):
    def test_they_are_read_as_told(self):
        for call in later_calls():
            seen = ask(start(THREE), shares([10, 20, 40]), call, share(1), fewest())
            self.assertEqual(seen[3:], [[0, 1, 5], [5]], call)

    def test_rows_of_every_length(self):
        for number in (12, 13):
            for length in (0, 1, 2, 3, 4, 59, 60):
                seen = ask(start(TWO), [number, length] + [4] * length, share(1), fewest())
                self.assertEqual(seen[2:], [[0, 0, 1], [10]])

    def test_they_change_nothing(self):
        seen = ask(start(TWO), shares([30, 7]), *later_calls(), share(0), share(1), forebears(1, 0, 1))
        self.assertEqual(seen[-3:], [[0, 3, 10], [0, 7, 100], [0, 1, 10]])


if __name__ == "__main__":
    unittest.main()
