"""Point 2: share, after, apart, first, soon."""

import unittest

from asking import (ALONE, CHANGE_PLACES, EVEN, FOUR, GREATEST, THREE, TWO, after, apart, ask, come, first, last,
                    looks, next_one, share, shares, soon, start)

# What is apart comes down to a half, or to a tenth, with each generation.
HALVES = [75, 25, 25, 75]
TENTHS = [55, 45, 45, 55]


class Share(unittest.TestCase):
    def test_in_lowest_terms(self):
        told = {0: [0, 0, 1], 1: [0, 1, 100], 2: [0, 1, 50], 5: [0, 1, 20], 25: [0, 1, 4], 30: [0, 3, 10],
                33: [0, 33, 100], 64: [0, 16, 25], 99: [0, 99, 100], 100: [0, 1, 1]}
        for hundredths, answer in told.items():
            self.assertEqual(last(start(TWO), shares([hundredths, 0]), share(0)), answer)
            self.assertEqual(last(start(TWO), shares([0, hundredths]), share(1)), answer)

    def test_a_field_just_there_and_just_not(self):
        for row, size in ((TWO, 2), (THREE, 3), (FOUR, 4)):
            self.assertEqual(ask(start(row), share(size - 1), share(size), share(GREATEST))[1:],
                             [[0, 0, 1], [-22], [-22]])


class After(unittest.TestCase):
    def test_two_fields(self):
        line = [start(TWO), shares([30, 7])]
        self.assertEqual(ask(*line, *[after(n, 0) for n in range(5)])[2:],
                         [[0, 3, 10], [0, 277, 1000], [0, 2609, 10000], [0, 24963, 100000], [0, 241741, 1000000]])
        self.assertEqual(ask(*line, *[after(n, 1) for n in range(5)])[2:],
                         [[0, 7, 100], [0, 29, 250], [0, 741, 5000], [0, 8537, 50000], [0, 93259, 500000]])

    def test_three_fields(self):
        line = [start(THREE), shares([10, 20, 40])]
        self.assertEqual(ask(*line, after(1, 0), after(1, 1), after(1, 2))[2:],
                         [[0, 3, 20], [0, 1, 4], [0, 71, 200]])
        self.assertEqual(ask(*line, after(2, 0), after(2, 1), after(2, 2))[2:],
                         [[0, 381, 2000], [0, 543, 2000], [0, 329, 1000]])

    def test_four_fields(self):
        line = [start(FOUR), shares([4, 8, 12, 0])]
        self.assertEqual(ask(*line, after(1, 0), after(1, 1), after(1, 2), after(1, 3))[2:],
                         [[0, 8, 125], [0, 3, 50], [0, 3, 25], [0, 7, 1250]])

    def test_as_if_so_many_generations_had_gone_by(self):
        for row, told in ((TWO, [30, 7]), (THREE, [10, 20, 40]), (FOUR, [4, 8, 12, 0])):
            size = len(told)
            for n in range(4):
                ahead = ask(start(row), shares(told), *[after(n, i) for i in range(size)])[2:]
                gone = ask(start(row), shares(told), *[next_one()] * n, *[share(i) for i in range(size)])[2 + n:]
                self.assertEqual(ahead, gone)

    def test_it_changes_nothing(self):
        begun = [start(THREE), shares([10, 20, 40])]
        self.assertEqual(ask(*begun, after(4, 1), after(5, 1), *looks(3))[4:], ask(*begun, *looks(3))[2:])

    def test_great_fractions_are_not_rounded(self):
        begun = [start([99, 1, 0, 100]), shares([1, 0])] + [next_one()] * 3
        self.assertEqual(last(*begun, after(4, 0)), [0, 99 ** 7, 100 ** 8])
        self.assertEqual(last(*begun, next_one(), after(4, 0)), [0, 93206534790699, 10000000000000000])
        self.assertEqual(last(*begun, apart(4)), [0, 93206534790699, 10000000000000000])

    def test_refusals(self):
        for row, size in ((TWO, 2), (THREE, 3), (FOUR, 4)):
            top = size - 1
            self.assertEqual(ask(start(row), after(4, top), after(5, top), after(4, size), after(5, size))[1:],
                             [[0, 0, 1], [-22], [-22], [-22]])
            self.assertEqual(ask(start(row), after(0, size), after(GREATEST, 0), after(0, GREATEST))[1:], [[-22]] * 3)


class Apart(unittest.TestCase):
    def test_two_fields(self):
        told = [[0, 23, 100], [0, 161, 1000], [0, 1127, 10000], [0, 7889, 100000], [0, 55223, 1000000]]
        calls = [apart(n) for n in range(5)]
        self.assertEqual(ask(start(TWO), shares([30, 7]), *calls)[2:], told)
        self.assertEqual(ask(start(TWO), shares([7, 30]), *calls)[2:], told)

    def test_three_fields(self):
        self.assertEqual(ask(start(THREE), shares([10, 20, 40]), apart(0), apart(1), apart(2))[2:],
                         [[0, 3, 10], [0, 41, 200], [0, 277, 2000]])
        self.assertEqual(last(start(THREE), shares([20, 40, 10]), apart(0)), [0, 3, 10])
        self.assertEqual(last(start(THREE), shares([20, 10, 40]), apart(0)), [0, 3, 10])

    def test_four_fields(self):
        self.assertEqual(ask(start(FOUR), shares([4, 8, 12, 0]), apart(0), apart(1))[2:],
                         [[0, 3, 25], [0, 143, 1250]])

    def test_from_now_on(self):
        self.assertEqual(ask(start(TWO), shares([30, 7]), next_one(), apart(0), apart(3))[3:],
                         [[0, 161, 1000], [0, 55223, 1000000]])

    def test_alike_or_mixed_are_0(self):
        self.assertEqual(ask(start(THREE), apart(0), shares([9, 9, 9]), apart(0), apart(4)),
                         [[3], [0, 0, 1], [0], [0, 0, 1], [0, 0, 1]])
        self.assertEqual(ask(start(EVEN), shares([0, 100]), apart(0), apart(1), apart(4))[2:],
                         [[0, 1, 1], [0, 0, 1], [0, 0, 1]])

    def test_changing_places_keeps_it(self):
        self.assertEqual(ask(start(CHANGE_PLACES), shares([25, 100]), *[apart(n) for n in range(5)])[2:],
                         [[0, 3, 4]] * 5)

    def test_refusals(self):
        for row in (TWO, THREE, FOUR):
            self.assertEqual(ask(start(row), apart(4), apart(5), apart(GREATEST))[1:], [[0, 0, 1], [-22], [-22]])


class First(unittest.TestCase):
    def test_each_field_may_be_the_one(self):
        for row, size in ((TWO, 2), (THREE, 3), (FOUR, 4)):
            for field in range(size):
                told = [40] * size
                told[field] = 41
                self.assertEqual(last(start(row), shares(told), first(0)), [field])

    def test_ordinary(self):
        self.assertEqual(ask(start(TWO), shares([30, 7]), *[first(n) for n in range(5)])[2:], [[0]] * 5)
        self.assertEqual(ask(start(TWO), shares([7, 30]), *[first(n) for n in range(5)])[2:], [[1]] * 5)
        self.assertEqual(ask(start(THREE), shares([10, 20, 40]), *[first(n) for n in range(5)])[2:], [[2]] * 5)
        self.assertEqual(ask(start(FOUR), shares([4, 8, 12, 0]), *[first(n) for n in range(5)])[2:], [[2]] * 5)

    def test_shares_alike(self):
        for row, size in ((TWO, 2), (THREE, 3), (FOUR, 4), (CHANGE_PLACES, 2)):
            for hundredths in (0, 37, 100):
                seen = ask(start(row), shares([hundredths] * size), *[first(n) for n in range(5)])
                self.assertEqual(seen[2:], [[0]] * 5)

    def test_the_first_of_several_greatest(self):
        self.assertEqual(ask(start(THREE), shares([5, 9, 9]), first(0), shares([9, 5, 9]), first(0), shares([9, 9, 5]),
                             first(0))[2::2], [[1], [0], [0]])
        self.assertEqual(ask(start(FOUR), shares([5, 6, 9, 9]), first(0), shares([5, 9, 6, 9]), first(0))[2::2],
                         [[2], [1]])
        self.assertEqual(ask(start(EVEN), shares([0, 100]), *[first(n) for n in range(5)])[2:],
                         [[1], [0], [0], [0], [0]])

    def test_the_greatest_changes_from_generation_to_generation(self):
        self.assertEqual(ask(start(CHANGE_PLACES), shares([3, 50]), *[first(n) for n in range(5)])[2:],
                         [[1], [0], [1], [0], [1]])
        self.assertEqual(ask(start([0, 100, 0, 0, 0, 100, 100, 0, 0]), shares([1, 2, 3]),
                             *[first(n) for n in range(5)])[2:], [[2], [1], [0], [2], [1]])
        self.assertEqual(ask(start([0, 100, 0, 0, 0, 0, 100, 0, 0, 0, 0, 100, 100, 0, 0, 0]), shares([0, 0, 0, 1]),
                             *[first(n) for n in range(5)])[2:], [[3], [2], [1], [0], [3]])
        # 30 and 7, then 11.6 and 25.4, then 22.64 and 14.36, of 100
        self.assertEqual(ask(start([20, 80, 80, 20]), shares([30, 7]), *[first(n) for n in range(5)])[2:],
                         [[0], [1], [0], [1], [0]])

    def test_from_now_on(self):
        self.assertEqual(ask(start([0, 100, 0, 0, 0, 100, 100, 0, 0]), shares([1, 2, 3]), next_one(), first(0),
                             first(1), next_one(), first(0), first(4))[3:], [[1], [0], [0], [0], [2]])

    def test_a_little_more_is_greatest(self):
        # 49 and 50, 50 and 49.99, 49.99 and 49.9901, 49.9901 and 49.990099, 49.990099 and 49.99009901, of 100
        self.assertEqual(ask(start([0, 100, 1, 99]), shares([49, 50]), *[first(n) for n in range(5)])[2:],
                         [[1], [0], [1], [0], [1]])

    def test_refusals(self):
        for row in (TWO, THREE, FOUR):
            self.assertEqual(ask(start(row), first(0), first(4), first(5), first(GREATEST))[1:],
                             [[0], [0], [-22], [-22]])


class Soon(unittest.TestCase):
    def answered(self, row, told, parts):
        return [answer[0] for answer in ask(start(row), shares(told), *[soon(m) for m in parts])[2:]]

    def test_two_fields(self):
        # 1, then 7 tenths of it with each generation: 700, 490, 343 and 240.1 of 1000
        self.assertEqual(self.answered(TWO, [100, 0], [1, 2, 3, 4, 5, 1000]), [0, 2, 4, 4, -33, -33])
        self.assertEqual(self.answered(TWO, [0, 100], [1, 2, 3, 4, 5, 1000]), [0, 2, 4, 4, -33, -33])
        self.assertEqual(self.answered(TWO, [30, 7], [4, 5, 6, 7, 8, 9, 12, 13, 18, 19]),
                         [0, 1, 1, 2, 2, 3, 3, 4, 4, -33])

    def test_three_fields(self):
        # 0.3, 0.205, 0.1385, 0.0929, 0.062025
        self.assertEqual(self.answered(THREE, [10, 20, 40], [1, 3, 4, 5, 7, 8, 10, 11, 16, 17]),
                         [0, 0, 1, 2, 2, 3, 3, 4, 4, -33])

    def test_four_fields(self):
        # 0.12, 0.1144, 0.109296, 0.1044.., 0.0997..
        self.assertEqual(self.answered(FOUR, [4, 8, 12, 0], [8, 9, 10, 11]), [0, 2, 4, -33])
        self.assertEqual(self.answered([25] * 16, [0, 30, 7, 100], [1, 2, 1000]), [0, 1, 1])

    def test_just_one_part_in_m_and_a_little_more(self):
        self.assertEqual(self.answered(HALVES, [100, 0], [1, 2, 3, 4, 5, 8, 9, 16, 17]),
                         [0, 1, 2, 2, 3, 3, 4, 4, -33])
        self.assertEqual(self.answered(TENTHS, [100, 0], [1, 2, 10, 11, 100, 101, 1000]), [0, 1, 1, 2, 2, 3, 3])
        for hundredths, answer in ((10, 0), (11, 1), (20, 1), (21, 2), (40, 2), (41, 3), (80, 3), (81, 4)):
            self.assertEqual(self.answered(HALVES, [hundredths, 0], [10]), [answer])
        self.assertEqual(self.answered(ALONE, [1, 0], [100, 101]), [0, -33])
        self.assertEqual(self.answered(ALONE, [4, 8], [25, 26]), [0, -33])
        self.assertEqual(self.answered(ALONE, [100, 0], [1, 2]), [0, -33])

    def test_the_finest(self):
        # After 2 generations 1 of 1000 apart, or 1.1 of 1000
        self.assertEqual(self.answered(TENTHS, [10, 0], [1000]), [2])
        self.assertEqual(self.answered(TENTHS, [11, 0], [1000]), [3])
        self.assertEqual(ask(start(TENTHS), shares([1, 0]), soon(1000), next_one(), soon(1000))[2:], [[1], [0], [0]])
        self.assertEqual(self.answered(HALVES, [1, 0], [1000, 800, 801, 100]), [4, 3, 4, 0])
        self.assertEqual(self.answered(HALVES, [2, 0], [800, 801]), [4, -33])

    def test_after_4_but_not_3(self):
        self.assertEqual(self.answered(HALVES, [80, 0], [19, 20]), [4, 4])
        self.assertEqual(self.answered(HALVES, [80, 0], [21]), [-33])

    def test_shares_alike(self):
        for row, size in ((TWO, 2), (ALONE, 2), (CHANGE_PLACES, 2), (THREE, 3), (FOUR, 4)):
            for hundredths in (0, 9, 100):
                self.assertEqual(self.answered(row, [hundredths] * size, [1, 2, 999, 1000]), [0] * 4)

    def test_never_where_places_are_changed(self):
        self.assertEqual(self.answered(CHANGE_PLACES, [0, 100], [1, 2]), [0, -33])

    def test_from_now_on(self):
        self.assertEqual(ask(start(HALVES), shares([100, 0]), soon(17), next_one(), soon(17), soon(16), soon(32),
                             soon(33), come(0, 1, 0, 25), soon(2))[2:],
                         [[-33], [0], [4], [3], [4], [-33], [100], [0]])

    def test_it_follows_come(self):
        self.assertEqual(ask(start(ALONE), shares([0, 100]), soon(2), come(0, 0, 1, 49), soon(2), come(0, 0, 1, 1),
                             soon(2))[2:], [[-33], [49], [2], [50], [1]])

    def test_refusals(self):
        for row in (TWO, THREE, FOUR, ALONE):
            self.assertEqual(ask(start(row), soon(0), soon(1), soon(1000), soon(1001), soon(GREATEST))[1:],
                             [[-22], [0], [0], [-22], [-22]])

    def test_the_first_named_is_answered(self):
        self.assertEqual(ask(start(ALONE), shares([0, 100]), soon(1000), soon(1001), soon(0), soon(GREATEST))[2:],
                         [[-33], [-22], [-22], [-22]])


if __name__ == "__main__":
    unittest.main()
