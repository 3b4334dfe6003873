"""Point 3: fewest, bound, from, reach, mixed."""

import unittest
from itertools import product

from asking import (ALONE, CHANGE_PLACES, EVEN, FOUR, GREATEST, MIXED_FOUR, THREE, TWO, ask, bound, come, fewest,
                    forebears, last, looks, mixed, next_one, reach, shares, start)

# From each field one goes on to the next, and only the last has some of its own.
CHAIN_TWO = [0, 100, 0, 100]
CHAIN_THREE = [0, 100, 0, 0, 0, 100, 0, 0, 100]
CHAIN_FOUR = [0, 100, 0, 0, 0, 0, 100, 0, 0, 0, 0, 100, 0, 0, 0, 100]
ROUND_THREE = [0, 100, 0, 0, 0, 100, 100, 0, 0]
ROUND_FOUR = [0, 100, 0, 0, 0, 0, 100, 0, 0, 0, 0, 100, 100, 0, 0, 0]


class Fewest(unittest.TestCase):
    def test_over_all_fields(self):
        told = [(TWO, 10), (THREE, 5), (FOUR, 0), (MIXED_FOUR, 10), (EVEN, 50), (ALONE, 0), (CHANGE_PLACES, 0),
                ([25] * 16, 25), ([34, 33, 33] * 3, 33)]
        for row, least in told:
            self.assertEqual(last(start(row), fewest()), [least])

    def test_those_of_the_field_itself_count(self):
        self.assertEqual(last(start([3, 97, 60, 40]), fewest()), [3])
        self.assertEqual(last(start([40, 60, 98, 2]), fewest()), [2])

    def test_wherever_the_least_stands(self):
        for size, each in ((2, 50), (3, 33), (4, 25)):
            spare = 100 - each * size
            for i in range(size):
                for j in range(size):
                    row = ([each + spare] + [each] * (size - 1)) * size
                    k = (j + 1) % size
                    row[size * i + j] -= 7 + spare
                    row[size * i + k] += 7 + spare
                    self.assertEqual(last(start(row), fewest()), [min(row)])

    def test_it_follows_come(self):
        self.assertEqual(ask(start(TWO), come(0, 1, 0, 4), fewest(), come(1, 0, 1, 20), fewest())[1:],
                         [[94], [6], [100], [0]])


class Bound(unittest.TestCase):
    def test_two_fields(self):
        self.assertEqual(ask(start(TWO), shares([30, 7]), *[bound(n) for n in range(5)])[2:],
                         [[0, 23, 100], [0, 23, 125], [0, 92, 625], [0, 368, 3125], [0, 1472, 15625]])

    def test_three_fields(self):
        self.assertEqual(ask(start(THREE), shares([10, 20, 40]), bound(0), bound(1), bound(2))[2:],
                         [[0, 3, 10], [0, 51, 200], [0, 867, 4000]])

    def test_four_fields(self):
        self.assertEqual(ask(start(MIXED_FOUR), shares([0, 100, 50, 50]), *[bound(n) for n in range(5)])[2:],
                         [[0, 1, 1], [0, 3, 5], [0, 9, 25], [0, 27, 125], [0, 81, 625]])
        self.assertEqual(ask(start(FOUR), shares([4, 8, 12, 0]), bound(0), bound(1), bound(4))[2:], [[0, 3, 25]] * 3)

    def test_from_now_on(self):
        self.assertEqual(ask(start(TWO), shares([30, 7]), next_one(), bound(0), bound(1))[3:],
                         [[0, 161, 1000], [0, 161, 1250]])

    def test_nothing_left_of_1(self):
        self.assertEqual(ask(start(EVEN), shares([0, 30]), bound(0), bound(1), bound(4))[2:],
                         [[0, 3, 10], [0, 0, 1], [0, 0, 1]])
        self.assertEqual(ask(start([25] * 16), shares([0, 30, 0, 0]), bound(0), bound(1))[2:],
                         [[0, 3, 10], [0, 0, 1]])

    def test_shares_alike(self):
        self.assertEqual(ask(start(TWO), bound(0), bound(4), shares([8, 8]), bound(0), bound(4))[1:],
                         [[0, 0, 1], [0, 0, 1], [0], [0, 0, 1], [0, 0, 1]])

    def test_great_fractions_are_not_rounded(self):
        begun = [start([99, 1, 1, 99]), shares([1, 0])] + [next_one()] * 3
        self.assertEqual(last(*begun, bound(4)), [0, 49 ** 7, 100 * 50 ** 7])

    def test_refusals(self):
        for row in (TWO, THREE, FOUR):
            self.assertEqual(ask(start(row), bound(4), bound(5), bound(GREATEST))[1:], [[0, 0, 1], [-22], [-22]])


class From(unittest.TestCase):
    def test_now_all_are_of_their_field(self):
        for row, size in ((TWO, 2), (THREE, 3), (FOUR, 4)):
            for i in range(size):
                self.assertEqual(ask(start(row), *[forebears(0, i, j) for j in range(size)])[1:],
                                 [[0, 1, 1] if i == j else [0, 0, 1] for j in range(size)])

    def test_one_generation_on_as_told(self):
        self.assertEqual(ask(start(THREE), *[forebears(1, i, j) for i in range(3) for j in range(3)])[1:],
                         [[0, 7, 10], [0, 1, 5], [0, 1, 10], [0, 1, 10], [0, 3, 5], [0, 3, 10],
                          [0, 1, 20], [0, 3, 20], [0, 4, 5]])

    def test_two_fields(self):
        self.assertEqual(ask(start(TWO), *[forebears(2, i, j) for i in range(2) for j in range(2)])[1:],
                         [[0, 83, 100], [0, 17, 100], [0, 17, 50], [0, 33, 50]])
        self.assertEqual(ask(start(TWO), *[forebears(4, i, j) for i in range(2) for j in range(2)])[1:],
                         [[0, 7467, 10000], [0, 2533, 10000], [0, 2533, 5000], [0, 2467, 5000]])

    def test_three_fields(self):
        self.assertEqual(ask(start(THREE), *[forebears(2, i, j) for i in (0, 2) for j in range(3)])[1:],
                         [[0, 103, 200], [0, 11, 40], [0, 21, 100], [0, 9, 100], [0, 11, 50], [0, 69, 100]])

    def test_four_fields(self):
        self.assertEqual(ask(start(FOUR), *[forebears(2, i, j) for i in (1, 2) for j in range(4)])[1:],
                         [[0, 33, 200], [0, 57, 400], [0, 37, 100], [0, 129, 400],
                          [0, 0, 1], [0, 0, 1], [0, 1, 1], [0, 0, 1]])

    def test_shares_and_generations_gone_by_do_not_matter(self):
        begun = [start(THREE), shares([10, 20, 40]), next_one()]
        self.assertEqual(last(*begun, forebears(3, 1, 2)), last(start(THREE), forebears(3, 1, 2)))

    def test_great_fractions_are_not_rounded(self):
        self.assertEqual(last(start([99, 1, 0, 100]), forebears(4, 0, 0)), [0, 96059601, 100000000])
        self.assertEqual(last(start([99, 1, 0, 100]), forebears(4, 0, 1)), [0, 3940399, 100000000])

    def test_refusals(self):
        for row, size in ((TWO, 2), (THREE, 3), (FOUR, 4)):
            top = size - 1
            self.assertEqual(last(start(row), forebears(4, top, top))[0], 0)
            for told in ((5, top, top), (4, size, top), (4, top, size), (5, size, size), (GREATEST, 0, 0),
                         (0, GREATEST, 0), (0, 0, GREATEST), (GREATEST, GREATEST, GREATEST)):
                self.assertEqual(last(start(row), forebears(*told)), [-22], told)

    def test_looking_changes_nothing(self):
        begun = [start(FOUR), shares([4, 8, 12, 0])]
        looked = [fewest(), bound(3), bound(5), forebears(4, 0, 1), forebears(5, 0, 1), forebears(1, 4, 0)]
        self.assertEqual(ask(*begun, *looked, *looks(4))[8:], ask(*begun, *looks(4))[2:])


class Reach(unittest.TestCase):
    def table(self, row, size):
        seen = ask(start(row), *[reach(i, j) for i in range(size) for j in range(size)])[1:]
        return [[answer[0] for answer in seen[at * size:(at + 1) * size]] for at in range(size)]

    def test_itself_after_none(self):
        for row, size in ((TWO, 2), (CHANGE_PLACES, 2), (ALONE, 2), (THREE, 3), (ROUND_THREE, 3), (FOUR, 4),
                          (CHAIN_FOUR, 4), (ROUND_FOUR, 4)):
            self.assertEqual(ask(start(row), *[reach(i, i) for i in range(size)])[1:], [[0]] * size)

    def test_two_fields(self):
        self.assertEqual(self.table(TWO, 2), [[0, 1], [1, 0]])
        self.assertEqual(self.table(CHANGE_PLACES, 2), [[0, 1], [1, 0]])
        self.assertEqual(self.table(ALONE, 2), [[0, -33], [-33, 0]])
        self.assertEqual(self.table(CHAIN_TWO, 2), [[0, 1], [-33, 0]])

    def test_three_fields(self):
        self.assertEqual(self.table(THREE, 3), [[0, 1, 1], [1, 0, 1], [1, 1, 0]])
        self.assertEqual(self.table(CHAIN_THREE, 3), [[0, 1, 2], [-33, 0, 1], [-33, -33, 0]])
        self.assertEqual(self.table(ROUND_THREE, 3), [[0, 1, 2], [2, 0, 1], [1, 2, 0]])
        self.assertEqual(self.table([99, 1, 0, 0, 99, 1, 0, 1, 99], 3), [[0, 1, 2], [-33, 0, 1], [-33, 1, 0]])

    def test_four_fields(self):
        self.assertEqual(self.table(FOUR, 4), [[0, 1, 1, 1], [1, 0, 1, 1], [-33, -33, 0, -33], [1, 1, 1, 0]])
        self.assertEqual(self.table(CHAIN_FOUR, 4),
                         [[0, 1, 2, 3], [-33, 0, 1, 2], [-33, -33, 0, 1], [-33, -33, -33, 0]])
        self.assertEqual(self.table(ROUND_FOUR, 4), [[0, 1, 2, 3], [3, 0, 1, 2], [2, 3, 0, 1], [1, 2, 3, 0]])

    def test_a_hundredth_is_some(self):
        self.assertEqual(self.table([99, 1, 0, 0, 0, 99, 1, 0, 0, 0, 99, 1, 0, 0, 0, 100], 4)[0], [0, 1, 2, 3])

    def test_as_from_tells_it(self):
        # Of four fields none is further than 3 generations off: what first comes after 4 came before.
        for row in (CHAIN_FOUR, ROUND_FOUR, FOUR, MIXED_FOUR):
            for i, j in product(range(4), repeat=2):
                seen = ask(start(row), reach(i, j), *[forebears(n, i, j) for n in range(5)])[1:]
                some = [n for n, answer in enumerate(seen[1:]) if answer[1] > 0]
                self.assertEqual(seen[0], [some[0] if some else -33])
                self.assertNotEqual(seen[0], [4])
        self.assertEqual(ask(start(CHAIN_FOUR), reach(0, 3), forebears(2, 0, 3), forebears(3, 0, 3),
                             forebears(4, 0, 3))[1:], [[3], [0, 0, 1], [0, 1, 1], [0, 1, 1]])

    def test_it_follows_come(self):
        self.assertEqual(ask(start(ALONE), reach(0, 1), come(0, 0, 1, 1), reach(0, 1), reach(1, 0), come(0, 1, 0, 1),
                             reach(0, 1))[1:], [[-33], [1], [1], [-33], [100], [-33]])

    def test_shares_and_generations_gone_by_do_not_matter(self):
        begun = [start(CHAIN_FOUR), shares([10, 20, 40, 3]), next_one(), next_one()]
        self.assertEqual(last(*begun, reach(0, 3)), [3])
        self.assertEqual(last(*begun, reach(3, 0)), [-33])

    def test_refusals(self):
        for row, size in ((TWO, 2), (CHAIN_TWO, 2), (THREE, 3), (CHAIN_THREE, 3), (FOUR, 4), (CHAIN_FOUR, 4)):
            top = size - 1
            self.assertEqual(ask(start(row), reach(top, top), reach(0, 1))[1:], [[0], [1]])
            for told in ((size, 0), (0, size), (size, top), (top, size), (size, size), (GREATEST, 0), (0, GREATEST),
                         (GREATEST, GREATEST), (top, GREATEST)):
                self.assertEqual(last(start(row), reach(*told)), [-22], told)


class Mixed(unittest.TestCase):
    def test_two_fields(self):
        for row, answer in ((TWO, 1), (EVEN, 1), ([1, 99, 99, 1], 1), ([0, 100, 1, 99], 2), ([50, 50, 100, 0], 2)):
            self.assertEqual(last(start(row), mixed()), [answer], row)

    def test_three_fields(self):
        told = [(THREE, 1), ([0, 100, 0, 33, 33, 34, 0, 100, 0], 2), ([0, 100, 0, 0, 0, 100, 1, 1, 98], 3),
                ([0, 100, 0, 0, 0, 100, 1, 0, 99], 4)]
        for row, answer in told:
            self.assertEqual(last(start(row), mixed()), [answer], row)

    def test_four_fields(self):
        told = [(MIXED_FOUR, 1), ([0, 100, 0, 0, 25, 25, 25, 25, 0, 100, 0, 0, 0, 100, 0, 0], 2),
                ([50, 50, 0, 0, 25, 50, 25, 0, 0, 25, 50, 25, 0, 0, 50, 50], 3),
                ([0, 100, 0, 0, 0, 0, 100, 0, 0, 0, 0, 100, 97, 1, 1, 1], 4)]
        for row, answer in told:
            self.assertEqual(last(start(row), mixed()), [answer], row)

    def test_not_within_4(self):
        # The last three are mixed after 5, 5 and 10 generations: too late.
        for row in (CHANGE_PLACES, ALONE, CHAIN_TWO, [50, 50, 0, 100], CHAIN_THREE, ROUND_THREE, FOUR, CHAIN_FOUR,
                    ROUND_FOUR, [50, 50, 0, 50, 50, 0, 0, 0, 100], [0, 100, 0, 0, 0, 100, 50, 50, 0],
                    [0, 100, 0, 0, 0, 0, 100, 0, 0, 0, 0, 100, 30, 30, 0, 40],
                    [0, 100, 0, 0, 0, 0, 100, 0, 0, 0, 0, 100, 50, 50, 0, 0]):
            self.assertEqual(last(start(row), mixed()), [-33], row)

    def test_every_field_counts(self):
        for size, each in ((2, 50), (3, 33), (4, 25)):
            for i, j in product(range(size), repeat=2):
                row = ([each + 100 - each * size] + [each] * (size - 1)) * size
                k = (j + 1) % size
                row[size * i + k] += row[size * i + j]
                row[size * i + j] = 0
                # Of two fields one is alone when none comes from the other.
                self.assertEqual(last(start(row), mixed()), [-33 if size == 2 and i != j else 2], row)

    def test_all_patterns_of_three_fields(self):
        patterns = [[34, 33, 33], [50, 50, 0], [50, 0, 50], [0, 50, 50], [100, 0, 0], [0, 100, 0], [0, 0, 100]]
        for rows in product(patterns, repeat=3):
            row = rows[0] + rows[1] + rows[2]
            asked = [forebears(n, i, j) for n in range(5) for i in range(3) for j in range(3)]
            seen = ask(start(row), mixed(), *asked)[1:]
            some = [all(answer[1] > 0 for answer in seen[at:at + 9]) for at in range(1, 46, 9)]
            self.assertEqual(seen[0], [some.index(True) if True in some else -33], row)

    def test_it_follows_come(self):
        self.assertEqual(ask(start(ALONE), mixed(), come(0, 0, 1, 100), mixed(), come(1, 1, 0, 1), mixed(),
                             come(0, 1, 0, 1), mixed())[1:], [[-33], [100], [-33], [1], [2], [1], [1]])

    def test_shares_and_generations_gone_by_do_not_matter(self):
        row = [0, 100, 0, 0, 0, 100, 1, 0, 99]
        self.assertEqual(ask(start(row), shares([7, 7, 7]), mixed(), next_one(), mixed(), shares([0, 9, 1]), next_one(),
                             mixed())[1:], [[0], [4], [0], [4], [0], [0], [4]])


if __name__ == "__main__":
    unittest.main()
