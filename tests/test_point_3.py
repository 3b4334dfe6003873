"""Point 3: fewest, bound, from."""

import unittest

from asking import (ALONE, CHANGE_PLACES, EVEN, FOUR, GREATEST, THREE, TWO, bound, come, ask, fewest, forebears, last,
                    looks, next_one, shares, start)

MIXED_FOUR = [40, 30, 20, 10, 25, 25, 25, 25, 10, 10, 70, 10, 10, 20, 30, 40]


class Fewest(unittest.TestCase):
    def test_over_all_fields(self):
        told = [(TWO, 10), (THREE, 5), (FOUR, 0), (MIXED_FOUR, 10), (EVEN, 50), (ALONE, 0), (CHANGE_PLACES, 0),
                ([25] * 16, 25), ([34, 33, 33] * 3, 33)]
        for row, least in told:
            self.assertEqual(last(start(row), fewest()), [least])

    def test_those_of_the_field_itself_count(self):
        self.assertEqual(last(start([3, 97, 60, 40]), fewest()), [3])
        self.assertEqual(last(start([40, 60, 98, 2]), fewest()), [2])

    def test_wherever_the_least_stands(self):
        for size, each in ((2, 50), (3, 33), (4, 25)):
            spare = 100 - each * size
            for i in range(size):
                for j in range(size):
                    row = ([each + spare] + [each] * (size - 1)) * size
                    k = (j + 1) % size
                    row[size * i + j] -= 7 + spare
                    row[size * i + k] += 7 + spare
                    self.assertEqual(last(start(row), fewest()), [min(row)])

    def test_it_follows_come(self):
        self.assertEqual(ask(start(TWO), come(0, 1, 0, 4), fewest(), come(1, 0, 1, 20), fewest())[1:],
                         [[94], [6], [100], [0]])


class Bound(unittest.TestCase):
    def test_two_fields(self):
        self.assertEqual(ask(start(TWO), shares([30, 7]), *[bound(n) for n in range(5)])[2:],
                         [[0, 23, 100], [0, 23, 125], [0, 92, 625], [0, 368, 3125], [0, 1472, 15625]])

    def test_three_fields(self):
        self.assertEqual(ask(start(THREE), shares([10, 20, 40]), bound(0), bound(1), bound(2))[2:],
                         [[0, 3, 10], [0, 51, 200], [0, 867, 4000]])

    def test_four_fields(self):
        self.assertEqual(ask(start(MIXED_FOUR), shares([0, 100, 50, 50]), *[bound(n) for n in range(5)])[2:],
                         [[0, 1, 1], [0, 3, 5], [0, 9, 25], [0, 27, 125], [0, 81, 625]])
        self.assertEqual(ask(start(FOUR), shares([4, 8, 12, 0]), bound(0), bound(1), bound(4))[2:], [[0, 3, 25]] * 3)

    def test_from_now_on(self):
        self.assertEqual(ask(start(TWO), shares([30, 7]), next_one(), bound(0), bound(1))[3:],
                         [[0, 161, 1000], [0, 161, 1250]])

    def test_nothing_left_of_1(self):
        self.assertEqual(ask(start(EVEN), shares([0, 30]), bound(0), bound(1), bound(4))[2:],
                         [[0, 3, 10], [0, 0, 1], [0, 0, 1]])
        self.assertEqual(ask(start([25] * 16), shares([0, 30, 0, 0]), bound(0), bound(1))[2:],
                         [[0, 3, 10], [0, 0, 1]])

    def test_shares_alike(self):
        self.assertEqual(ask(start(TWO), bound(0), bound(4), shares([8, 8]), bound(0), bound(4))[1:],
                         [[0, 0, 1], [0, 0, 1], [0], [0, 0, 1], [0, 0, 1]])

    def test_great_fractions_are_not_rounded(self):
        begun = [start([99, 1, 1, 99]), shares([1, 0])] + [next_one()] * 3
        self.assertEqual(last(*begun, bound(4)), [0, 49 ** 7, 100 * 50 ** 7])

    def test_refusals(self):
        for row in (TWO, THREE, FOUR):
            self.assertEqual(ask(start(row), bound(4), bound(5), bound(GREATEST))[1:], [[0, 0, 1], [-22], [-22]])


class From(unittest.TestCase):
    def test_now_all_are_of_their_field(self):
        for row, size in ((TWO, 2), (THREE, 3), (FOUR, 4)):
            for i in range(size):
                self.assertEqual(ask(start(row), *[forebears(0, i, j) for j in range(size)])[1:],
                                 [[0, 1, 1] if i == j else [0, 0, 1] for j in range(size)])

    def test_one_generation_on_as_told(self):
        self.assertEqual(ask(start(THREE), *[forebears(1, i, j) for i in range(3) for j in range(3)])[1:],
                         [[0, 7, 10], [0, 1, 5], [0, 1, 10], [0, 1, 10], [0, 3, 5], [0, 3, 10],
                          [0, 1, 20], [0, 3, 20], [0, 4, 5]])

    def test_two_fields(self):
        self.assertEqual(ask(start(TWO), *[forebears(2, i, j) for i in range(2) for j in range(2)])[1:],
                         [[0, 83, 100], [0, 17, 100], [0, 17, 50], [0, 33, 50]])
        self.assertEqual(ask(start(TWO), *[forebears(4, i, j) for i in range(2) for j in range(2)])[1:],
                         [[0, 7467, 10000], [0, 2533, 10000], [0, 2533, 5000], [0, 2467, 5000]])

    def test_three_fields(self):
        self.assertEqual(ask(start(THREE), *[forebears(2, i, j) for i in (0, 2) for j in range(3)])[1:],
                         [[0, 103, 200], [0, 11, 40], [0, 21, 100], [0, 9, 100], [0, 11, 50], [0, 69, 100]])

    def test_four_fields(self):
        self.assertEqual(ask(start(FOUR), *[forebears(2, i, j) for i in (1, 2) for j in range(4)])[1:],
                         [[0, 33, 200], [0, 57, 400], [0, 37, 100], [0, 129, 400],
                          [0, 0, 1], [0, 0, 1], [0, 1, 1], [0, 0, 1]])

    def test_shares_and_generations_gone_by_do_not_matter(self):
        begun = [start(THREE), shares([10, 20, 40]), next_one()]
        self.assertEqual(last(*begun, forebears(3, 1, 2)), last(start(THREE), forebears(3, 1, 2)))

    def test_great_fractions_are_not_rounded(self):
        self.assertEqual(last(start([99, 1, 0, 100]), forebears(4, 0, 0)), [0, 96059601, 100000000])
        self.assertEqual(last(start([99, 1, 0, 100]), forebears(4, 0, 1)), [0, 3940399, 100000000])

    def test_refusals(self):
        for row, size in ((TWO, 2), (THREE, 3), (FOUR, 4)):
            top = size - 1
            self.assertEqual(last(start(row), forebears(4, top, top))[0], 0)
            for told in ((5, top, top), (4, size, top), (4, top, size), (5, size, size), (GREATEST, 0, 0),
                         (0, GREATEST, 0), (0, 0, GREATEST), (GREATEST, GREATEST, GREATEST)):
                self.assertEqual(last(start(row), forebears(*told)), [-22], told)

    def test_looking_changes_nothing(self):
        begun = [start(FOUR), shares([4, 8, 12, 0])]
        looked = [fewest(), bound(3), bound(5), forebears(4, 0, 1), forebears(5, 0, 1), forebears(1, 4, 0)]
        self.assertEqual(ask(*begun, *looked, *looks(4))[8:], ask(*begun, *looks(4))[2:])


if __name__ == "__main__":
    unittest.main()
