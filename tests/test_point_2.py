"""Point 2: share, after, apart."""

import unittest

from asking import (CHANGE_PLACES, EVEN, FOUR, GREATEST, THREE, TWO, after, apart, ask, last, looks, next_one, share,
                    shares, start)


class Share(unittest.TestCase):
    def test_in_lowest_terms(self):
        told = {0: [0, 0, 1], 1: [0, 1, 100], 2: [0, 1, 50], 5: [0, 1, 20], 25: [0, 1, 4], 30: [0, 3, 10],
                33: [0, 33, 100], 64: [0, 16, 25], 99: [0, 99, 100], 100: [0, 1, 1]}
        for hundredths, answer in told.items():
            self.assertEqual(last(start(TWO), shares([hundredths, 0]), share(0)), answer)
            self.assertEqual(last(start(TWO), shares([0, hundredths]), share(1)), answer)

    def test_a_field_just_there_and_just_not(self):
        for row, size in ((TWO, 2), (THREE, 3), (FOUR, 4)):
            self.assertEqual(ask(start(row), share(size - 1), share(size), share(GREATEST))[1:],
                             [[0, 0, 1], [-22], [-22]])


class After(unittest.TestCase):
    def test_two_fields(self):
        line = [start(TWO), shares([30, 7])]
        self.assertEqual(ask(*line, *[after(n, 0) for n in range(5)])[2:],
                         [[0, 3, 10], [0, 277, 1000], [0, 2609, 10000], [0, 24963, 100000], [0, 241741, 1000000]])
        self.assertEqual(ask(*line, *[after(n, 1) for n in range(5)])[2:],
                         [[0, 7, 100], [0, 29, 250], [0, 741, 5000], [0, 8537, 50000], [0, 93259, 500000]])

    def test_three_fields(self):
        line = [start(THREE), shares([10, 20, 40])]
        self.assertEqual(ask(*line, after(1, 0), after(1, 1), after(1, 2))[2:],
                         [[0, 3, 20], [0, 1, 4], [0, 71, 200]])
        self.assertEqual(ask(*line, after(2, 0), after(2, 1), after(2, 2))[2:],
                         [[0, 381, 2000], [0, 543, 2000], [0, 329, 1000]])

    def test_four_fields(self):
        line = [start(FOUR), shares([4, 8, 12, 0])]
        self.assertEqual(ask(*line, after(1, 0), after(1, 1), after(1, 2), after(1, 3))[2:],
                         [[0, 8, 125], [0, 3, 50], [0, 3, 25], [0, 7, 1250]])

    def test_as_if_so_many_generations_had_gone_by(self):
        for row, told in ((TWO, [30, 7]), (THREE, [10, 20, 40]), (FOUR, [4, 8, 12, 0])):
            size = len(told)
            for n in range(4):
                ahead = ask(start(row), shares(told), *[after(n, i) for i in range(size)])[2:]
                gone = ask(start(row), shares(told), *[next_one()] * n, *[share(i) for i in range(size)])[2 + n:]
                self.assertEqual(ahead, gone)

    def test_it_changes_nothing(self):
        begun = [start(THREE), shares([10, 20, 40])]
        self.assertEqual(ask(*begun, after(4, 1), after(5, 1), *looks(3))[4:], ask(*begun, *looks(3))[2:])

    def test_great_fractions_are_not_rounded(self):
        begun = [start([99, 1, 0, 100]), shares([1, 0])] + [next_one()] * 3
        self.assertEqual(last(*begun, after(4, 0)), [0, 99 ** 7, 100 ** 8])
        self.assertEqual(last(*begun, next_one(), after(4, 0)), [0, 93206534790699, 10000000000000000])
        self.assertEqual(last(*begun, apart(4)), [0, 93206534790699, 10000000000000000])

    def test_refusals(self):
        for row, size in ((TWO, 2), (THREE, 3), (FOUR, 4)):
            top = size - 1
            self.assertEqual(ask(start(row), after(4, top), after(5, top), after(4, size), after(5, size))[1:],
                             [[0, 0, 1], [-22], [-22], [-22]])
            self.assertEqual(ask(start(row), after(0, size), after(GREATEST, 0), after(0, GREATEST))[1:], [[-22]] * 3)


class Apart(unittest.TestCase):
    def test_two_fields(self):
        told = [[0, 23, 100], [0, 161, 1000], [0, 1127, 10000], [0, 7889, 100000], [0, 55223, 1000000]]
        calls = [apart(n) for n in range(5)]
        self.assertEqual(ask(start(TWO), shares([30, 7]), *calls)[2:], told)
        self.assertEqual(ask(start(TWO), shares([7, 30]), *calls)[2:], told)

    def test_three_fields(self):
        self.assertEqual(ask(start(THREE), shares([10, 20, 40]), apart(0), apart(1), apart(2))[2:],
                         [[0, 3, 10], [0, 41, 200], [0, 277, 2000]])
        self.assertEqual(last(start(THREE), shares([20, 40, 10]), apart(0)), [0, 3, 10])
        self.assertEqual(last(start(THREE), shares([20, 10, 40]), apart(0)), [0, 3, 10])

    def test_four_fields(self):
        self.assertEqual(ask(start(FOUR), shares([4, 8, 12, 0]), apart(0), apart(1))[2:],
                         [[0, 3, 25], [0, 143, 1250]])

    def test_from_now_on(self):
        self.assertEqual(ask(start(TWO), shares([30, 7]), next_one(), apart(0), apart(3))[3:],
                         [[0, 161, 1000], [0, 55223, 1000000]])

    def test_alike_or_mixed_are_0(self):
        self.assertEqual(ask(start(THREE), apart(0), shares([9, 9, 9]), apart(0), apart(4)),
                         [[3], [0, 0, 1], [0], [0, 0, 1], [0, 0, 1]])
        self.assertEqual(ask(start(EVEN), shares([0, 100]), apart(0), apart(1), apart(4))[2:],
                         [[0, 1, 1], [0, 0, 1], [0, 0, 1]])

    def test_changing_places_keeps_it(self):
        self.assertEqual(ask(start(CHANGE_PLACES), shares([25, 100]), *[apart(n) for n in range(5)])[2:],
                         [[0, 3, 4]] * 5)

    def test_refusals(self):
        for row in (TWO, THREE, FOUR):
            self.assertEqual(ask(start(row), apart(4), apart(5), apart(GREATEST))[1:], [[0, 0, 1], [-22], [-22]])


if __name__ == "__main__":
    unittest.main()
