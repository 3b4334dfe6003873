"""The interface: one list in, one list out; -11; what no call changes."""

import unittest

from asking import (ALONE, CHANGE_PLACES, EVEN, FOUR, GREATEST, THREE, TWO, Model, after, alone, apart, ask, bound,
                    come, fewest, first, forebears, keeps, looks, mixed, next_one, pair, reach, rest, share, shares,
                    soon, start, state, weighed)
from fieldshares.wanderers import answers

TOP = GREATEST

# Every call but start, as it may be told, as it may not, and at the upper end.
OTHERS = [shares([1, 2]), shares([]), shares([TOP] * 60), come(0, 0, 1, 1), come(9, 9, 9, 0), come(TOP, TOP, TOP, TOP),
          share(0), share(9), share(TOP), next_one(), after(1, 0), after(5, 9), after(TOP, TOP), apart(0), apart(5),
          apart(TOP), bound(0), bound(5), bound(TOP), fewest(), forebears(0, 0, 0), forebears(5, 9, 9),
          forebears(TOP, TOP, TOP), reach(0, 0), reach(0, 1), reach(9, 9), reach(TOP, TOP), mixed(), keeps([0, 0]),
          keeps([]), keeps([1, 2, 3]), keeps([TOP] * 60), weighed([1, 1]), weighed([]), weighed([1, 2, 3, 4]),
          weighed([TOP] * 60), rest(0, 0), rest(1, 2), rest(101, 101), rest(TOP, TOP), pair(0, 0, 0), pair(1, 2, 3),
          pair(101, 101, 5), pair(TOP, TOP, TOP), first(0), first(5), first(TOP), soon(1), soon(0), soon(1001),
          soon(TOP), alone(0), alone(9), alone(TOP), state()]

# Calls 10 to 19 on fields of that number: those that are answered, and those that are refused.
ANSWERED = {
    size: [reach(0, size - 1), reach(1, 1), mixed(), keeps([1] * size), keeps([0] * size), weighed([1000] * size),
           weighed(list(range(size))), rest(0, 0), rest(100, 3), pair(0, 0, 0), pair(100, 7, 4), first(0), first(4),
           soon(1), soon(1000), alone(0), alone(size - 1), state()]
    for size in (2, 3, 4)
}
REFUSED = {
    size: [reach(size, 0), reach(0, size), reach(TOP, TOP), keeps([]), keeps([1] * (size - 1)), keeps([1] * (size + 1)),
           keeps([1] * 60), keeps([1001] + [0] * (size - 1)), keeps([TOP] * size), weighed([]),
           weighed([1] * (size - 1)), weighed([1] * (size + 1)), weighed([1] * 60), weighed([0] * (size - 1) + [1001]),
           weighed([TOP] * size), rest(101, 0), rest(0, 101), rest(TOP, TOP), pair(101, 0, 0), pair(0, 101, 0),
           pair(0, 0, 5), pair(TOP, TOP, TOP), first(5), first(TOP), soon(0), soon(1001), soon(TOP), alone(size),
           alone(TOP)]
    for size in (2, 3, 4)
}

LINE = (start(TWO) + shares([30, 7]) + come(0, 0, 1, 5) + share(0) + next_one() + after(2, 1) + apart(1) + bound(1)
        + fewest() + forebears(2, 0, 1) + share(2) + start([1]) + start(FOUR) + shares([1, 2, 3, 4]) + next_one()
        + share(3) + reach(0, 3) + mixed() + keeps([0, 0, 9, 0]) + weighed([1, 2, 3, 4]) + rest(1, 2) + pair(1, 2, 3)
        + first(2) + soon(40) + alone(2) + state() + come(2, 2, 1, 30) + reach(2, 1) + keeps([0, 0, 9, 0]) + state())


def twenty_kinds(size, turn):
    """A call of each kind on so many fields, told otherwise each time, some of them refused."""
    row = {2: TWO, 3: THREE, 4: FOUR}[size]
    field, other, n = turn % size, (turn + 1) % size, turn % 6
    return [start(row), shares([(7 * turn + 13 * i) % 101 for i in range(size)]), come(field, field, other, 1 + n),
            share(field), next_one(), after(n, other), apart(n), bound(n), fewest(), forebears(n, other, field),
            reach(field, other), mixed(), keeps([n] * size), weighed([turn + i for i in range(size)]),
            rest(turn % 103, 3 * turn % 103), pair(turn, n, n), first(n), soon(1 + turn * n), alone(other), state()]


class OneList(unittest.TestCase):
    def test_counts_come_ahead(self):
        self.assertEqual(answers([0, 4, 90, 10, 20, 80]), [1, 2])
        self.assertEqual(answers([0, 4, 90, 10, 20, 80, 1, 2, 30, 7, 3, 0, 8, 2, 0, 0, 1, 5, 4, 3, 5, 5, 2, 1, 6, 0]),
                         [1, 2, 1, 0, 3, 0, 3, 10, 1, 10, 1, 15, 1, 0, 1, -22, 3, 0, 33067, 200000, 3, 0, 299, 2000])
        self.assertEqual(answers([8]), [1, -11])
        self.assertEqual(answers([0, 0]), [1, -22])

    def test_counts_come_ahead_with_two_fields(self):
        begun = [0, 4, 90, 10, 20, 80, 1, 2, 30, 7]
        told = [([10, 0, 1], [1, 1]), ([11], [1, 1]), ([12, 2, 2, 1], [1, 1]), ([13, 2, 2, 1], [3, 0, 67, 100]),
                ([14, 10, 20], [3, 0, 67, 300]), ([15, 10, 20, 1], [5, 0, 277, 1000, 29, 250]), ([16, 4], [1, 0]),
                ([17, 18], [1, 4]), ([18, 1], [1, 0]), ([19], [3, 2, 90, 80])]
        self.check(begun, [1, 2, 1, 0], told)

    def test_counts_come_ahead_with_three_fields(self):
        begun = [0, 9, 70, 20, 10, 10, 60, 30, 5, 15, 80, 1, 3, 10, 20, 40]
        told = [([10, 2, 2], [1, 0]), ([11], [1, 1]), ([12, 3, 7, 11, 21], [1, 0]),
                ([13, 3, 7, 11, 20], [3, 0, 109, 10]), ([14, 30, 10], [3, 0, 7, 40]),
                ([15, 30, 10, 4], [5, 0, 1033, 6250, 557, 3125]), ([16, 0], [1, 2]), ([17, 17], [1, -33]),
                ([18, 3], [1, -22]), ([19], [4, 3, 70, 60, 80])]
        self.check(begun, [1, 3, 1, 0], told)

    def test_counts_come_ahead_with_four_fields(self):
        begun = [0, 16, 40, 30, 20, 10, 25, 25, 25, 25, 0, 0, 100, 0, 1, 2, 3, 94, 1, 4, 4, 8, 12, 0]
        told = [([10, 2, 0], [1, -33]), ([11], [1, -33]), ([12, 4, 0, 0, 1000, 0], [1, 1]),
                ([13, 4, 5, 0, 1, 1000], [3, 0, 8, 25]), ([14, 0, 0], [3, 0, 1, 25]),
                ([15, 0, 50, 3], [5, 0, 1, 25, 9, 200]), ([16, 3], [1, 2]), ([17, 9], [1, 2]), ([18, 2], [1, 1]),
                ([19], [5, 4, 40, 25, 100, 94])]
        self.check(begun, [1, 4, 1, 0], told)

    def check(self, begun, answered, told):
        line, whole = list(begun), list(answered)
        for call, answer in told:
            self.assertEqual(answers(begun + call), answered + answer, call)
            line += call
            whole += answer
        self.assertEqual(answers(line), whole)

    def test_what_is_handed_in_stays(self):
        line = list(LINE)
        answers(line)
        self.assertEqual(line, LINE)

    def test_asked_twice_answered_twice_the_same(self):
        once = answers(LINE)
        self.assertEqual(answers([3, 0]), [1, -11])
        self.assertEqual(answers(LINE), once)

    def test_whole_numbers_in_a_new_list(self):
        given = answers(LINE)
        self.assertIs(type(given), list)
        self.assertEqual({type(number) for number in given}, {int})
        given.clear()
        self.assertNotEqual(answers(LINE), [])

    def test_two_hundred_calls_of_the_longest(self):
        longest = [0, 60] + [GREATEST] * 60
        self.assertEqual(answers(longest * 200), [1, -22] * 200)
        self.assertEqual(answers(start(EVEN) + [1, 60] + [0] * 60 + [3, 1] * 198), [1, 2, 1, -22] + [3, 0, 0, 1] * 198)
        for number in (12, 13):
            self.assertEqual(answers(start(EVEN) + ([number, 60] + [0] * 60) * 199), [1, 2] + [1, -22] * 199)
        self.assertEqual(answers(start(FOUR) + [19] * 199), [1, 4] + [5, 4, 40, 25, 100, 94] * 199)

    def test_two_hundred_calls_of_all_kinds(self):
        for order in (1, 7, 31):
            calls = [call for turn in range(10) for call in twenty_kinds(2 + turn * order % 3, turn * order)]
            # Another order each time, and some calls ahead of the first start.
            calls = [calls[(5 + at * order) % 200] for at in range(200)]
            self.assertEqual({call[0] for call in calls}, set(range(20)))
            self.assertEqual([call[0] for call in calls].count(0), 10)
            line = [number for call in calls for number in call]
            handed_in = list(line)
            model = Model()
            told = [model.answer(call) for call in calls]
            once = answers(handed_in)
            self.assertEqual(handed_in, line)
            self.assertEqual(once, [number for answer in told for number in [len(answer)] + answer])
            self.assertEqual(answers(handed_in), once)
            self.assertTrue(min(number in told for number in ([-11], [-22], [0])))

    def test_what_is_handed_in_stays_with_each_call(self):
        for size, row in ((2, TWO), (3, THREE), (4, FOUR)):
            for call in ANSWERED[size] + REFUSED[size]:
                line = start(row) + shares([9] * size) + call + next_one() + call
                handed_in = list(line)
                self.assertEqual(answers(handed_in), answers(handed_in))
                self.assertEqual(handed_in, line)

    def test_numbers_within_a_row_are_no_calls(self):
        for number in (1, 12, 13):
            for length in (0, 1, 3, 4, 59, 60):
                for inner in (0, 4, 11, 19):
                    seen = ask(start(TWO), [number, length] + [inner] * length, share(1), fewest())
                    self.assertEqual(seen[1:], [[-22], [0, 0, 1], [10]])


class NotStarted(unittest.TestCase):
    def test_each_call_alone(self):
        for call in OTHERS:
            self.assertEqual(ask(call), [[-11]], call)

    def test_all_in_one_line(self):
        self.assertEqual({call[0] for call in OTHERS}, set(range(1, 20)))
        self.assertEqual(ask(*OTHERS), [[-11]] * len(OTHERS))

    def test_after_a_refused_start(self):
        for bad in ([], [100], TWO + [0], [99, 0, 0, 100], [0] * 60, [TOP] * 4):
            for call in OTHERS:
                self.assertEqual(ask(start(bad), call), [[-22], [-11]], call)

    def test_a_start_behind_them(self):
        self.assertEqual(ask(share(0), shares([1, 2]), start(TWO), share(0)), [[-11], [-11], [2], [0, 0, 1]])


class NothingChanges(unittest.TestCase):
    def begun(self, size, gone):
        row = {2: TWO, 3: THREE, 4: FOUR}[size]
        return [start(row), shares([10, 20, 40, 7][:size])] + [next_one()] * gone

    def test_behind_each_all_is_as_it_was(self):
        for size in (2, 3, 4):
            for gone in (0, 2):
                begun = self.begun(size, gone)
                plain = ask(*begun, *looks(size), next_one(), *looks(size))[len(begun):]
                for call in ANSWERED[size] + REFUSED[size]:
                    seen = ask(*begun, call, *looks(size), next_one(), *looks(size))
                    self.assertEqual(seen[len(begun) + 1:], plain, call)

    def test_which_are_refused(self):
        for size in (2, 3, 4):
            begun = self.begun(size, 1)
            for call in ANSWERED[size]:
                self.assertNotEqual(ask(*begun, call)[-1], [-22], call)
            for call in REFUSED[size]:
                self.assertEqual(ask(*begun, call)[-1], [-22], call)

    def test_asked_twice_answered_twice_the_same(self):
        for size in (2, 3, 4):
            for call in ANSWERED[size] + REFUSED[size]:
                seen = ask(*self.begun(size, 1), call, call)
                self.assertEqual(seen[-1], seen[-2], call)

    def test_not_within_changes_nothing(self):
        for row in (ALONE, CHANGE_PLACES):
            begun = [start(row), shares([0, 100])]
            refused = [mixed(), soon(2)] + ([reach(0, 1)] if row == ALONE else [])
            seen = ask(*begun, *refused, *looks(2))
            self.assertEqual(seen[2:2 + len(refused)], [[-33]] * len(refused))
            self.assertEqual(seen[2 + len(refused):], ask(*begun, *looks(2))[2:])


class UpperEnd(unittest.TestCase):
    def test_in_every_place(self):
        good = [share(0), after(1, 1), apart(1), bound(1), forebears(1, 0, 1), reach(0, 1), rest(1, 2), pair(1, 2, 3),
                first(1), soon(9), alone(1), come(0, 0, 1, 1), shares([1, 2]), keeps([2, 1]), weighed([2, 1])]
        for call in good:
            self.assertGreaterEqual(ask(start(TWO), call)[1][0], 0)
            begin = 2 if call[0] in (1, 12, 13) else 1
            for at in range(begin, len(call)):
                told = list(call)
                told[at] = TOP
                # n of come counts plants: too many of them is another refusal.
                self.assertEqual(ask(start(TWO), told)[1], [-12 if call[0] == 2 and at == 4 else -22], told)


if __name__ == "__main__":
    unittest.main()
