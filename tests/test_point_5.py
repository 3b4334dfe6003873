"""Point 5: rest, pair, alone, state."""

import unittest

from asking import (ALONE, CHANGE_PLACES, EVEN, FOUR, GREATEST, THREE, TWO, after, alone, ask, come, last, next_one,
                    pair, rest, shares, start, state)


class Rest(unittest.TestCase):
    def answered(self, row, told, *pairs):
        return ask(start(row), shares(told), *[rest(a, b) for a, b in pairs])[2:]

    def test_two_fields(self):
        self.assertEqual(self.answered(TWO, [30, 7], (10, 20), (20, 10), (1, 2), (50, 50), (100, 1), (1, 100)),
                         [[0, 67, 300], [0, 11, 75], [0, 67, 300], [0, 37, 200], [0, 73, 1010], [0, 3007, 10100]])
        self.assertEqual(self.answered(TWO, [30, 7], (99, 100)), [[0, 3693, 19900]])

    def test_three_fields(self):
        self.assertEqual(self.answered(THREE, [10, 20, 40], (30, 10), (10, 30), (1, 2)),
                         [[0, 7, 40], [0, 1, 8], [0, 2, 15]])

    def test_four_fields(self):
        self.assertEqual(self.answered(FOUR, [4, 8, 12, 0], (25, 75), (75, 25), (2, 1)),
                         [[0, 1, 20], [0, 7, 100], [0, 1, 15]])

    def test_both_0(self):
        self.assertEqual(self.answered(TWO, [30, 7], (0, 0)), [[0, 3, 10]])
        self.assertEqual(self.answered(TWO, [7, 30], (0, 0)), [[0, 7, 100]])
        self.assertEqual(self.answered(THREE, [10, 20, 40], (0, 0)), [[0, 1, 10]])
        self.assertEqual(self.answered(FOUR, [0, 8, 12, 0], (0, 0)), [[0, 0, 1]])

    def test_one_0(self):
        for size, row in ((2, TWO), (3, THREE), (4, FOUR)):
            told = [30, 7, 99, 98][:size]
            for other in (1, 5, 99, 100):
                self.assertEqual(self.answered(row, told, (0, other), (other, 0)), [[0, 3, 10], [0, 7, 100]])

    def test_both_100(self):
        self.assertEqual(self.answered(TWO, [30, 7], (100, 100)), [[0, 37, 200]])
        self.assertEqual(self.answered(THREE, [10, 20, 40], (100, 100)), [[0, 3, 20]])
        self.assertEqual(self.answered(FOUR, [0, 8, 12, 100], (100, 100)), [[0, 1, 25]])

    def test_shares_alike(self):
        self.assertEqual(self.answered(TWO, [45, 45], (0, 0), (3, 4), (100, 100)), [[0, 9, 20]] * 3)
        self.assertEqual(self.answered(TWO, [0, 0], (0, 0), (3, 4), (100, 100)), [[0, 0, 1]] * 3)

    def test_the_told_fields_hundreds_do_not_matter(self):
        for row in (TWO, ALONE, EVEN, CHANGE_PLACES):
            self.assertEqual(self.answered(row, [30, 7], (10, 20)), [[0, 67, 300]])

    def test_of_the_shares_now(self):
        self.assertEqual(ask(start(TWO), shares([30, 7]), next_one(), rest(10, 20), rest(0, 0), rest(20, 10))[3:],
                         [[0, 67, 300], [0, 277, 1000], [0, 509, 3000]])

    def test_great_fractions_are_not_rounded(self):
        line = [start([99, 1, 0, 100]), shares([1, 0])] + [next_one()] * 3
        self.assertEqual(ask(*line, rest(1, 2), rest(100, 97), rest(0, 0), rest(3, 0))[5:],
                         [[0, 323433, 50000000], [0, 94119003, 19700000000], [0, 970299, 100000000], [0, 0, 1]])


class Pair(unittest.TestCase):
    def answered(self, row, told, *triples):
        return ask(start(row), shares(told), *[pair(a, b, n) for a, b, n in triples])[2:]

    def generations(self, row, told, a, b):
        return self.answered(row, told, *[(a, b, n) for n in range(5)])

    def test_two_fields(self):
        on = [[0, 3, 10, 7, 100], [0, 277, 1000, 29, 250], [0, 2609, 10000, 741, 5000],
              [0, 24963, 100000, 8537, 50000], [0, 241741, 1000000, 93259, 500000]]
        self.assertEqual(self.generations(TWO, [30, 7], 10, 20), on)
        self.assertEqual(self.generations(ALONE, [30, 7], 10, 20), on)

    def test_three_fields(self):
        self.assertEqual(self.generations(THREE, [10, 20, 40], 30, 10),
                         [[0, 1, 10, 1, 5], [0, 13, 100, 19, 100], [0, 37, 250, 23, 125], [0, 397, 2500, 451, 2500],
                          [0, 1033, 6250, 557, 3125]])

    def test_four_fields(self):
        self.assertEqual(self.generations(FOUR, [4, 8, 12, 0], 25, 75), [[0, 1, 25, 2, 25]] + [[0, 1, 20, 1, 20]] * 4)
        self.assertEqual(self.generations(FOUR, [4, 8, 12, 0], 0, 50),
                         [[0, 1, 25, 2, 25], [0, 1, 25, 3, 50], [0, 1, 25, 1, 20], [0, 1, 25, 9, 200],
                          [0, 1, 25, 17, 400]])

    def test_both_0(self):
        self.assertEqual(self.generations(TWO, [30, 7], 0, 0), [[0, 3, 10, 7, 100]] * 5)
        self.assertEqual(self.generations(THREE, [10, 20, 40], 0, 0), [[0, 1, 10, 1, 5]] * 5)
        self.assertEqual(self.generations(FOUR, [4, 8, 12, 0], 0, 0), [[0, 1, 25, 2, 25]] * 5)

    def test_one_0(self):
        self.assertEqual(self.generations(TWO, [30, 7], 0, 50),
                         [[0, 3, 10, 7, 100], [0, 3, 10, 37, 200], [0, 3, 10, 97, 400], [0, 3, 10, 217, 800],
                          [0, 3, 10, 457, 1600]])
        self.assertEqual(self.generations(TWO, [30, 7], 50, 0),
                         [[0, 3, 10, 7, 100], [0, 37, 200, 7, 100], [0, 51, 400, 7, 100], [0, 79, 800, 7, 100],
                          [0, 27, 320, 7, 100]])
        self.assertEqual(self.generations(TWO, [30, 7], 100, 0), [[0, 3, 10, 7, 100]] + [[0, 7, 100, 7, 100]] * 4)
        self.assertEqual(self.generations(THREE, [30, 7, 1], 0, 100), [[0, 3, 10, 7, 100]] + [[0, 3, 10, 3, 10]] * 4)

    def test_both_100(self):
        for row, told in ((TWO, [30, 7]), (THREE, [30, 7, 50]), (FOUR, [30, 7, 50, 60])):
            self.assertEqual(self.generations(row, told, 100, 100),
                             [[0, 3, 10, 7, 100], [0, 7, 100, 3, 10]] * 2 + [[0, 3, 10, 7, 100]])

    def test_more_than_a_hundred_together(self):
        self.assertEqual(self.generations(TWO, [100, 0], 80, 80),
                         [[0, 1, 1, 0, 1], [0, 1, 5, 4, 5], [0, 17, 25, 8, 25], [0, 49, 125, 76, 125],
                          [0, 353, 625, 272, 625]])

    def test_as_the_fields_would_be(self):
        for a, b in ((10, 20), (0, 7), (100, 33), (100, 100)):
            line = [start([100 - a, a, b, 100 - b]), shares([30, 7])]
            for n in range(5):
                seen = ask(*line, after(n, 0), after(n, 1), pair(a, b, n))[2:]
                self.assertEqual(seen[2], seen[0] + seen[1][1:])

    def test_of_the_shares_now(self):
        self.assertEqual(ask(start(TWO), shares([30, 7]), next_one(), pair(10, 20, 0), pair(10, 20, 3),
                             pair(0, 0, 4))[3:],
                         [[0, 277, 1000, 29, 250], [0, 241741, 1000000, 93259, 500000], [0, 277, 1000, 29, 250]])

    def test_great_fractions_are_not_rounded(self):
        line = [start([99, 1, 0, 100]), shares([1, 0])] + [next_one()] * 3
        self.assertEqual(ask(*line, pair(1, 0, 4), pair(0, 1, 1))[5:],
                         [[0, 93206534790699, 10000000000000000, 0, 1], [0, 970299, 100000000, 970299, 10000000000]])

    def test_after_very_many_generations(self):
        line = [start(CHANGE_PLACES), shares([3, 50])] + [next_one()] * 191
        self.assertEqual(ask(*line, rest(1, 1), pair(100, 100, 3))[193:], [[0, 53, 200], [0, 3, 100, 1, 2]])


class RestAndPairRefuse(unittest.TestCase):
    def test_a_and_b(self):
        for row, told in ((TWO, [30, 7]), (THREE, [30, 7, 50]), (FOUR, [30, 7, 50, 60])):
            line = [start(row), shares(told)]
            for a, b in ((0, 0), (0, 100), (100, 0), (100, 100)):
                self.assertEqual([answer[0] for answer in ask(*line, rest(a, b), pair(a, b, 4))[2:]], [0, 0])
            for a, b in ((0, 101), (101, 0), (100, 101), (101, 100), (101, 101), (GREATEST, 0), (0, GREATEST),
                         (GREATEST, GREATEST)):
                self.assertEqual(ask(*line, rest(a, b), pair(a, b, 0), pair(a, b, 4), pair(a, b, 5))[2:], [[-22]] * 4)

    def test_n(self):
        for row in (TWO, THREE, FOUR):
            self.assertEqual(ask(start(row), pair(0, 0, 4), pair(0, 0, 5), pair(100, 100, 4), pair(100, 100, 5),
                                 pair(1, 2, GREATEST), pair(GREATEST, GREATEST, GREATEST))[1:],
                             [[0, 0, 1, 0, 1], [-22], [0, 0, 1, 0, 1], [-22], [-22], [-22]])


class Alone(unittest.TestCase):
    def test_ordinary(self):
        self.assertEqual(ask(start(TWO), alone(0), alone(1))[1:], [[0], [0]])
        self.assertEqual(ask(start(ALONE), alone(0), alone(1))[1:], [[1], [1]])
        self.assertEqual(ask(start(CHANGE_PLACES), alone(0), alone(1))[1:], [[0], [0]])
        self.assertEqual(ask(start([100, 0, 0, 20, 50, 30, 0, 50, 50]), alone(0), alone(1), alone(2))[1:],
                         [[1], [0], [0]])
        self.assertEqual(ask(start(FOUR), *[alone(i) for i in range(4)])[1:], [[0], [0], [1], [0]])

    def test_99_and_100_of_its_own(self):
        self.assertEqual(ask(start([99, 1, 0, 100]), alone(0), alone(1), come(0, 1, 0, 1), alone(0), come(1, 1, 0, 1),
                             alone(1))[1:], [[0], [1], [100], [1], [1], [0]])

    def test_all_of_another_field_are_not_its_own(self):
        self.assertEqual(ask(start([0, 100, 0, 100]), alone(0), alone(1))[1:], [[0], [1]])
        self.assertEqual(ask(start([100, 0, 100, 0]), alone(0), alone(1))[1:], [[1], [0]])

    def test_others_may_come_from_it(self):
        self.assertEqual(last(start([100, 0, 0, 50, 50, 0, 50, 0, 50]), alone(0)), [1])

    def test_refusals(self):
        for row, size in ((TWO, 2), (THREE, 3), (FOUR, 4), (ALONE, 2)):
            self.assertEqual(last(start(row), alone(size - 1)), [1 if row == ALONE else 0])
            self.assertEqual(ask(start(row), alone(size), alone(size + 1), alone(GREATEST))[1:], [[-22]] * 3)


class State(unittest.TestCase):
    def test_ordinary(self):
        told = [(TWO, [2, 90, 80]), (EVEN, [2, 50, 50]), (ALONE, [2, 100, 100]), (CHANGE_PLACES, [2, 0, 0]),
                (THREE, [3, 70, 60, 80]), (FOUR, [4, 40, 25, 100, 94])]
        for row, answer in told:
            self.assertEqual(last(start(row), state()), answer)

    def test_behind_come(self):
        self.assertEqual(ask(start(THREE), come(1, 1, 0, 60), state(), come(0, 2, 1, 5), state(), come(2, 1, 2, 15),
                             state())[2::2], [[3, 70, 0, 80], [3, 70, 0, 80], [3, 70, 0, 95]])
        self.assertEqual(ask(start(FOUR), come(2, 2, 0, 1), state(), come(3, 0, 3, 1), state(), come(3, 0, 3, 1),
                             state())[2::2], [[4, 40, 25, 99, 94], [4, 40, 25, 99, 95], [4, 40, 25, 99, 95]])

    def test_shares_and_generations_do_not_matter(self):
        self.assertEqual(ask(start(TWO), shares([30, 7]), state(), next_one(), state())[2:],
                         [[2, 90, 80], [0], [2, 90, 80]])

    def test_behind_another_start(self):
        self.assertEqual(ask(start(FOUR), start(TWO), state(), start([1]), state(), start(THREE), state())[2::2],
                         [[2, 90, 80], [2, 90, 80], [3, 70, 60, 80]])


if __name__ == "__main__":
    unittest.main()
