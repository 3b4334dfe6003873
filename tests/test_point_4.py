"""Point 4: keeps, weighed."""

import unittest

from asking import (ALONE, CHANGE_PLACES, EVEN, FOUR, GREATEST, MIXED_FOUR, THREE, TWO, ask, come, keeps, last,
                    next_one, share, shares, start, weighed)

# Weights that keep, in lowest terms.
KEEPING = [(TWO, [2, 1]), (EVEN, [1, 1]), (CHANGE_PLACES, [1, 1]), ([99, 1, 3, 97], [3, 1]), ([0, 100, 0, 100], [0, 1]),
           (THREE, [7, 11, 20]), ([0, 100, 0, 0, 0, 100, 50, 50, 0], [1, 2, 2]), (FOUR, [0, 0, 1, 0]),
           (MIXED_FOUR, [2, 2, 5, 2]), ([60, 40, 0, 0, 20, 60, 20, 0, 0, 10, 80, 10, 0, 0, 30, 70], [3, 6, 12, 4])]


class Keeps(unittest.TestCase):
    def test_weights_that_keep(self):
        for row, weights in KEEPING:
            self.assertEqual(last(start(row), keeps(weights)), [1], row)

    def test_as_many_times_these(self):
        for row, weights in KEEPING:
            for times in (2, 7, 1000 // max(weights)):
                self.assertEqual(last(start(row), keeps([times * weight for weight in weights])), [1], row)

    def test_one_more_or_one_less(self):
        for row, weights in KEEPING:
            for at, weight in enumerate(weights):
                for off in (-1, 1):
                    told = [10 * one for one in weights]
                    told[at] += off
                    # Field 2 of FOUR and field 1 of the fifth are alone: any weight of theirs keeps.
                    alone = weights.count(0) == len(weights) - 1 and weight == 1
                    if min(told) >= 0:
                        self.assertEqual(last(start(row), keeps(told)), [1 if alone else 0], (row, told))

    def test_weights_of_0(self):
        for row, weights in KEEPING + [(ALONE, [0, 0])]:
            self.assertEqual(last(start(row), keeps([0] * len(weights))), [1], row)
        self.assertEqual(ask(start(TWO), keeps([0, 1]), keeps([1, 0]))[1:], [[0], [0]])
        self.assertEqual(ask(start(THREE), keeps([0, 0, 1]), keeps([0, 1, 0]), keeps([1, 0, 0]))[1:], [[0]] * 3)

    def test_alone_all_weights_keep(self):
        for weights in ([0, 1], [1, 0], [1000, 1], [999, 1000], [3, 4]):
            self.assertEqual(last(start(ALONE), keeps(weights)), [1])

    def test_what_comes_from_a_field_not_what_comes_to_it(self):
        self.assertEqual(ask(start(TWO), keeps([1, 2]), keeps([1, 1]), keeps([2, 1]))[1:], [[0], [0], [1]])
        # All weights alike would keep if it were asked of what comes to a field.
        self.assertEqual(ask(start(THREE), keeps([1, 1, 1]), keeps([20, 11, 7]))[1:], [[0], [0]])
        self.assertEqual(last(start(FOUR), keeps([1, 1, 1, 1])), [0])

    def test_each_field_is_asked(self):
        # Each time it's so by all fields but two, wherever these stand.
        self.assertEqual(last(start([90, 10, 0, 0, 100, 0, 0, 0, 100]), keeps([1, 1, 1])), [0])
        self.assertEqual(last(start([100, 0, 0, 0, 90, 10, 0, 0, 100]), keeps([1, 1, 1])), [0])
        self.assertEqual(last(start([90, 0, 10, 0, 100, 0, 0, 0, 100]), keeps([1, 1, 1])), [0])
        self.assertEqual(last(start([100, 0, 0, 0, 0, 100, 0, 0, 0, 0, 99, 1, 0, 0, 0, 100]), keeps([1, 1, 1, 1])), [0])
        self.assertEqual(last(start([99, 0, 0, 1, 0, 100, 0, 0, 0, 0, 100, 0, 0, 0, 0, 100]), keeps([1, 1, 1, 1])), [0])

    def test_it_follows_come(self):
        self.assertEqual(ask(start(TWO), keeps([2, 1]), come(0, 1, 0, 5), keeps([2, 1]), keeps([4, 1]),
                             come(1, 0, 1, 10), keeps([4, 1]), keeps([2, 1]))[1:],
                         [[1], [95], [0], [1], [90], [0], [1]])

    def test_shares_and_generations_gone_by_do_not_matter(self):
        self.assertEqual(ask(start(THREE), shares([10, 20, 40]), keeps([7, 11, 20]), next_one(), keeps([7, 11, 20]),
                             keeps([7, 11, 19]), shares([5, 5, 5]), keeps([7, 11, 19]))[2:],
                         [[1], [0], [1], [0], [0], [0]])


class Weighed(unittest.TestCase):
    def test_two_fields(self):
        self.assertEqual(ask(start(TWO), shares([30, 7]), weighed([2, 1]), weighed([1, 0]), weighed([0, 1]),
                             weighed([1, 1]), weighed([10, 100]), weighed([3, 999]))[2:],
                         [[0, 67, 100], [0, 3, 10], [0, 7, 100], [0, 37, 100], [0, 10, 1], [0, 7083, 100]])

    def test_three_fields(self):
        self.assertEqual(ask(start(THREE), shares([10, 20, 40]), weighed([7, 11, 20]), weighed([1, 2, 3]),
                             weighed([0, 1, 0]))[2:], [[0, 109, 10], [0, 17, 10], [0, 1, 5]])

    def test_four_fields(self):
        self.assertEqual(ask(start(FOUR), shares([4, 8, 12, 0]), weighed([5, 0, 1, 1000]), weighed([1, 1, 1, 1]),
                             weighed([0, 0, 0, 1000]))[2:], [[0, 8, 25], [0, 6, 25], [0, 0, 1]])

    def test_weights_of_0(self):
        for row, size in ((TWO, 2), (THREE, 3), (FOUR, 4)):
            self.assertEqual(last(start(row), shares([33] * size), weighed([0] * size)), [0, 0, 1])

    def test_shares_of_0(self):
        for row, size in ((TWO, 2), (THREE, 3), (FOUR, 4)):
            self.assertEqual(last(start(row), weighed([1000] * size)), [0, 0, 1])

    def test_weights_of_1000(self):
        self.assertEqual(ask(start(TWO), shares([30, 7]), weighed([1000, 1000]), weighed([1000, 0]))[2:],
                         [[0, 370, 1], [0, 300, 1]])
        self.assertEqual(last(start(THREE), shares([100, 100, 100]), weighed([1000, 1000, 1000])), [0, 3000, 1])
        self.assertEqual(last(start(FOUR), shares([1, 2, 3, 5]), weighed([1000, 1000, 1000, 999])), [0, 2199, 20])

    def test_after_some_generations(self):
        self.assertEqual(ask(start(TWO), shares([30, 7]), next_one(), weighed([2, 1]), weighed([1, 1]), next_one(),
                             weighed([2, 1]), weighed([1, 1]))[2:],
                         [[0], [0, 67, 100], [0, 393, 1000], [0], [0, 67, 100], [0, 4091, 10000]])
        self.assertEqual(ask(start(THREE), shares([10, 20, 40]), next_one(), weighed([7, 11, 20]), weighed([1, 2, 3]),
                             next_one(), weighed([7, 11, 20]))[2:],
                         [[0], [0, 109, 10], [0, 343, 200], [0], [0, 109, 10]])
        self.assertEqual(ask(start(FOUR), shares([4, 8, 12, 0]), next_one(), weighed([5, 0, 1, 1000]))[2:],
                         [[0], [0, 151, 25]])

    def test_great_fractions_are_not_rounded(self):
        line = [start([99, 1, 0, 100]), shares([1, 0])] + [next_one()] * 3
        self.assertEqual(ask(*line, weighed([1, 0]), weighed([7, 0]), weighed([1000, 0]), weighed([999, 1000]))[5:],
                         [[0, 970299, 100000000], [0, 6792093, 100000000], [0, 970299, 100000],
                          [0, 969328701, 100000000]])

    def test_after_very_many_generations(self):
        line = [start(CHANGE_PLACES), shares([3, 50])] + [next_one()] * 191
        self.assertEqual(ask(*line, weighed([1, 0]), weighed([0, 1]), weighed([1000, 7]))[193:],
                         [[0, 1, 2], [0, 3, 100], [0, 50021, 100]])


class Refusals(unittest.TestCase):
    def test_as_many_as_fields(self):
        for row, size in ((TWO, 2), (THREE, 3), (FOUR, 4)):
            for length in (0, 1, size - 1, size + 1, 9, 16, 59, 60):
                for weight in (0, 1, 1000, 1001, GREATEST):
                    self.assertEqual(ask(start(row), keeps([weight] * length), weighed([weight] * length))[1:],
                                     [[-22], [-22]], length)
            self.assertEqual(ask(start(row), keeps([0] * size), weighed([0] * size))[1:], [[1], [0, 0, 1]])

    def test_at_most_1000(self):
        for row, size in ((TWO, 2), (THREE, 3), (FOUR, 4)):
            for at in range(size):
                told = [0] * size
                told[at] = 1000
                seen = ask(start(row), shares([100] * size), keeps(told), weighed(told))
                self.assertEqual(seen[2:], [[1 if row == FOUR and at == 2 else 0], [0, 1000, 1]])
                for over in (1001, GREATEST):
                    told[at] = over
                    self.assertEqual(ask(start(row), shares([100] * size), keeps(told), weighed(told))[2:],
                                     [[-22], [-22]])

    def test_a_weight_above_100_is_none_too_great(self):
        self.assertEqual(ask(start(TWO), shares([1, 1]), keeps([202, 101]), weighed([101, 0]), share(0))[2:],
                         [[1], [0, 101, 100], [0, 1, 100]])


if __name__ == "__main__":
    unittest.main()
