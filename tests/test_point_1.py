"""Point 1: start, shares, come, next."""

import unittest

from asking import (ALONE, CHANGE_PLACES, EVEN, FOUR, GREATEST, THREE, TWO, after, ask, come, fewest, forebears, last,
                    looks, next_one, share, shares, start)


class Start(unittest.TestCase):
    def test_how_many_fields(self):
        self.assertEqual(ask(start(TWO), start(THREE), start(FOUR)), [[2], [3], [4]])

    def test_row_by_row(self):
        self.assertEqual(last(start(TWO), forebears(1, 0, 1)), [0, 1, 10])
        self.assertEqual(last(start(TWO), forebears(1, 1, 0)), [0, 1, 5])
        self.assertEqual(last(start(THREE), forebears(1, 1, 2)), [0, 3, 10])
        self.assertEqual(last(start(THREE), forebears(1, 2, 1)), [0, 3, 20])
        self.assertEqual(last(start(FOUR), forebears(1, 3, 2)), [0, 3, 100])
        self.assertEqual(last(start(FOUR), forebears(1, 2, 3)), [0, 0, 1])

    def test_all_shares_are_0(self):
        for row, size in ((TWO, 2), (THREE, 3), (FOUR, 4)):
            self.assertEqual(ask(start(row), *[share(i) for i in range(size)])[1:], [[0, 0, 1]] * size)

    def test_a_second_start_begins_anew(self):
        line = [start(TWO), shares([10, 20]), next_one(), start(THREE)] + looks(3)
        self.assertEqual(ask(*line)[4:], ask(start(THREE), *looks(3))[1:])
        self.assertEqual(ask(start(THREE), shares([1, 2, 3]), start(TWO), share(0), share(2))[2:],
                         [[2], [0, 0, 1], [-22]])

    def test_other_lengths_are_refused(self):
        for length in (0, 1, 2, 3, 5, 6, 8, 10, 12, 15, 17, 25, 36, 59, 60):
            self.assertEqual(ask(start([0] * length)), [[-22]], length)
        self.assertEqual(ask(start([100])), [[-22]])
        self.assertEqual(ask(start([20] * 25)), [[-22]])
        self.assertEqual(ask(start([100] + [0] * 59)), [[-22]])
        self.assertEqual(ask(start([50, 50, 100])), [[-22]])

    def test_each_row_is_100_together(self):
        for size in (2, 3, 4):
            good = [100 if i == j else 0 for i in range(size) for j in range(size)]
            self.assertEqual(ask(start(good)), [[size]])
            for at in range(size):
                for off in (99, 101):
                    row = list(good)
                    row[at * size + at] = off
                    self.assertEqual(ask(start(row)), [[-22]], row)
                row = list(good)
                row[at * size + (at + 1) % size] = 1
                self.assertEqual(ask(start(row)), [[-22]], row)

    def test_rows_count_not_columns_nor_the_whole(self):
        self.assertEqual(ask(start([90, 20, 10, 80])), [[-22]])
        self.assertEqual(ask(start([99, 0, 0, 101])), [[-22]])
        self.assertEqual(ask(start([100, 0, 100, 0])), [[2]])

    def test_upper_end(self):
        for at in range(4):
            row = list(ALONE)
            row[at] = GREATEST
            self.assertEqual(ask(start(row)), [[-22]])
        for length in (0, 3, 4, 5, 9, 16, 60):
            self.assertEqual(ask(start([GREATEST] * length)), [[-22]])

    def test_a_refused_start_changes_nothing(self):
        begun = [start(THREE), shares([10, 20, 35]), next_one()]
        for bad in ([], TWO + [0], [99, 0, 0, 100], [100, 0, 0, 99], [0] * 60, [25] * 15 + [26]):
            seen = ask(*begun, start(bad), *looks(3))
            self.assertEqual(seen[3], [-22])
            self.assertEqual(seen[4:], ask(*begun, *looks(3))[3:])


class Shares(unittest.TestCase):
    def test_these_are_they(self):
        self.assertEqual(ask(start(TWO), shares([30, 7]), share(0), share(1)), [[2], [0], [0, 3, 10], [0, 7, 100]])
        self.assertEqual(ask(start(THREE), shares([0, 50, 100]), share(0), share(1), share(2))[1:],
                         [[0], [0, 0, 1], [0, 1, 2], [0, 1, 1]])
        self.assertEqual(ask(start(FOUR), shares([1, 2, 3, 4]), share(0), share(1), share(2), share(3))[1:],
                         [[0], [0, 1, 100], [0, 1, 50], [0, 3, 100], [0, 1, 25]])

    def test_told_again_after_a_generation(self):
        self.assertEqual(ask(start(TWO), shares([30, 7]), next_one(), shares([5, 6]), share(0), share(1))[4:],
                         [[0, 1, 20], [0, 3, 50]])

    def test_as_many_as_fields(self):
        for row, size in ((TWO, 2), (THREE, 3), (FOUR, 4)):
            for length in (0, 1, 2, 3, 4, 5, 9, 16, 60):
                self.assertEqual(last(start(row), shares([1] * length)), [0] if length == size else [-22])

    def test_at_most_100(self):
        for row, size in ((TWO, 2), (THREE, 3), (FOUR, 4)):
            for at in range(size):
                told = [3] * size
                told[at] = 100
                self.assertEqual(ask(start(row), shares(told), share(at))[1:], [[0], [0, 1, 1]])
                for over in (101, GREATEST):
                    told[at] = over
                    self.assertEqual(last(start(row), shares(told)), [-22])

    def test_together_they_may_be_anything(self):
        self.assertEqual(last(start(TWO), shares([100, 100])), [0])
        self.assertEqual(last(start(TWO), shares([0, 0])), [0])

    def test_a_refusal_changes_nothing(self):
        begun = [start(TWO), shares([30, 7])]
        for bad in ([], [1], [1, 2, 3], [1, 101], [101, 1], [GREATEST] * 60):
            seen = ask(*begun, shares(bad), *looks(2))
            self.assertEqual(seen[2], [-22])
            self.assertEqual(seen[3:], ask(*begun, *looks(2))[2:])


class Come(unittest.TestCase):
    def test_n_come_from_k_instead(self):
        self.assertEqual(ask(start(TWO), come(0, 0, 1, 15), forebears(1, 0, 0), forebears(1, 0, 1),
                             forebears(1, 1, 0), forebears(1, 1, 1))[1:],
                         [[25], [0, 3, 4], [0, 1, 4], [0, 1, 5], [0, 4, 5]])
        self.assertEqual(ask(start(THREE), come(1, 2, 0, 4), forebears(1, 1, 0), forebears(1, 1, 1),
                             forebears(1, 1, 2))[1:],
                         [[14], [0, 7, 50], [0, 3, 5], [0, 13, 50]])
        self.assertEqual(ask(start(FOUR), come(2, 2, 3, 100), forebears(1, 2, 2), forebears(1, 2, 3))[1:],
                         [[100], [0, 0, 1], [0, 1, 1]])

    def test_shares_stay_until_a_generation_goes_by(self):
        self.assertEqual(ask(start(ALONE), shares([0, 100]), come(0, 0, 1, 40), share(0), after(1, 0), next_one(),
                             share(0))[2:],
                         [[40], [0, 0, 1], [0, 2, 5], [0], [0, 2, 5]])

    def test_a_field_just_not_there(self):
        for row, size in ((TWO, 2), (THREE, 3), (FOUR, 4)):
            top = size - 1
            self.assertEqual(last(start(row), come(top, top, 0, 1)), [row[size * top] + 1])
            for gone in (size, 5, GREATEST):
                self.assertEqual(last(start(row), come(gone, 0, 1, 1)), [-22])
                self.assertEqual(last(start(row), come(0, gone, 1, 1)), [-22])
                self.assertEqual(last(start(row), come(0, 0, gone, 1)), [-22])

    def test_how_many_may_be_moved(self):
        self.assertEqual(last(start(TWO), come(0, 1, 0, 0)), [-22])
        self.assertEqual(last(start(TWO), come(0, 1, 0, 1)), [91])
        self.assertEqual(last(start(TWO), come(0, 1, 0, 9)), [99])
        self.assertEqual(last(start(TWO), come(0, 1, 0, 10)), [100])
        self.assertEqual(last(start(TWO), come(0, 1, 0, 11)), [-12])
        self.assertEqual(last(start(TWO), come(0, 1, 0, GREATEST)), [-12])
        self.assertEqual(last(start(ALONE), come(0, 1, 0, 1)), [-12])

    def test_n_counts_plants_not_generations(self):
        self.assertEqual(last(start(TWO), come(0, 0, 1, 5)), [15])

    def test_j_is_k(self):
        for field in (0, 1):
            self.assertEqual(last(start(TWO), come(0, field, field, 1)), [-12])
        self.assertEqual(last(start(TWO), come(0, 0, 0, 91)), [-12])

    def test_the_first_named_is_answered(self):
        self.assertEqual(last(start(TWO), come(0, 0, 0, 0)), [-22])
        self.assertEqual(last(start(TWO), come(0, 2, 2, 1)), [-22])
        self.assertEqual(last(start(TWO), come(2, 0, 0, 1)), [-22])
        self.assertEqual(last(start(TWO), come(2, 0, 1, 101)), [-22])
        self.assertEqual(last(start(TWO), come(0, 0, 2, 101)), [-22])
        self.assertEqual(last(start(TWO), come(*[GREATEST] * 4)), [-22])

    def test_a_refusal_changes_nothing(self):
        begun = [start(THREE), shares([10, 20, 35])]
        refused = {-22: [(3, 0, 1, 1), (0, 3, 1, 1), (0, 0, 3, 1), (0, 0, 1, 0)],
                   -12: [(0, 1, 1, 5), (0, 0, 0, 5), (0, 2, 1, 11)]}
        for number, calls in refused.items():
            for told in calls:
                seen = ask(*begun, come(*told), *looks(3))
                self.assertEqual(seen[2], [number])
                self.assertEqual(seen[3:], ask(*begun, *looks(3))[2:])

    def test_there_and_back(self):
        begun = [start(FOUR), shares([1, 2, 3, 4])]
        seen = ask(*begun, come(0, 1, 3, 7), come(0, 3, 1, 7), *looks(4))
        self.assertEqual(seen[2:4], [[17], [30]])
        self.assertEqual(seen[4:], ask(*begun, *looks(4))[2:])


class Next(unittest.TestCase):
    def test_a_generation_goes_by(self):
        # 90 * 30 + 10 * 7 and 20 * 30 + 80 * 7, of 10000
        self.assertEqual(ask(start(TWO), shares([30, 7]), next_one(), share(0), share(1))[2:],
                         [[0], [0, 277, 1000], [0, 29, 250]])
        # 70 * 10 + 20 * 20 + 10 * 40, 10 * 10 + 60 * 20 + 30 * 40, 5 * 10 + 15 * 20 + 80 * 40, of 10000
        self.assertEqual(ask(start(THREE), shares([10, 20, 40]), next_one(), share(0), share(1), share(2))[2:],
                         [[0], [0, 3, 20], [0, 1, 4], [0, 71, 200]])
        # 640, 600 and 56 of 10000; field 2 is alone
        self.assertEqual(ask(start(FOUR), shares([4, 8, 12, 0]), next_one(), *[share(i) for i in range(4)])[2:],
                         [[0], [0, 8, 125], [0, 3, 50], [0, 3, 25], [0, 7, 1250]])

    def test_all_go_by_at_once(self):
        self.assertEqual(ask(start(CHANGE_PLACES), shares([1, 100]), next_one(), share(0), share(1))[3:],
                         [[0, 1, 1], [0, 1, 100]])

    def test_forebears_are_told_anew_from_now(self):
        self.assertEqual(ask(start(TWO), next_one(), forebears(0, 0, 1), forebears(1, 0, 1))[2:],
                         [[0, 0, 1], [0, 1, 10]])

    def test_just_a_million_is_not_refused(self):
        seen = ask(start([99, 1, 0, 100]), shares([1, 0]), next_one(), share(0), next_one(), share(0), next_one(),
                   share(0), next_one(), share(0), share(1))
        self.assertEqual(seen[2:], [[0], [0, 99, 10000], [0], [0, 9801, 1000000], [0], [0, 970299, 100000000], [-28],
                                    [0, 970299, 100000000], [0, 0, 1]])

    def test_a_little_above_a_million_is_refused(self):
        # A fifth of 1/25, then half and half again: 1/512000 may go on, 1/1024000 may not.
        line = [start([20, 80, 0, 100]), shares([4, 0]), next_one(), come(0, 1, 0, 30)] + [next_one()] * 12
        seen = ask(*line, share(0), next_one(), share(0), next_one(), share(0))
        self.assertEqual(seen[len(line):], [[0, 1, 512000], [0], [0, 1, 1024000], [-28], [0, 1, 1024000]])

    def test_any_field_may_be_the_one(self):
        for field in range(3):
            halved = [start([100, 0, 0, 0, 100, 0, 0, 0, 100]), come(field, field, (field + 1) % 3, 50)]
            told = [0, 0, 0]
            told[field] = 100
            seen = ask(*halved, shares(told), *[next_one()] * 21, share(field))
            self.assertEqual(seen[3:], [[0]] * 20 + [[-28], [0, 1, 1048576]])

    def test_each_share_is_looked_at_for_itself(self):
        # 256 and 390625 are above a million only together.
        line = [start([50, 0, 50, 0, 20, 80, 0, 0, 100]), shares([100, 100, 0])] + [next_one()] * 8
        self.assertEqual(ask(*line, share(0), share(1), next_one(), next_one())[2:],
                         [[0]] * 8 + [[0, 1, 256], [0, 1, 390625], [0], [-28]])

    def test_after_the_refusal_nothing_has_changed(self):
        begun = [start(FOUR), shares([1, 2, 3, 7])] + [next_one()] * 3
        seen = ask(*begun, next_one(), next_one(), *looks(4))
        self.assertEqual(seen[2:7], [[0], [0], [0], [-28], [-28]])
        self.assertEqual(seen[7:], ask(*begun, *looks(4))[5:])

    def test_new_shares_let_it_go_on(self):
        seen = ask(start([99, 1, 0, 100]), shares([1, 0]), *[next_one()] * 4, shares([1, 0]), next_one(), share(0))
        self.assertEqual(seen[2:], [[0], [0], [0], [-28], [0], [0], [0, 99, 10000]])

    def test_shares_alike_go_on_for_ever(self):
        seen = ask(start(THREE), shares([37, 37, 37]), *[next_one()] * 190, share(0), share(1), share(2))
        self.assertEqual(seen[2:], [[0]] * 190 + [[0, 37, 100]] * 3)

    def test_without_shares(self):
        self.assertEqual(ask(start(EVEN), next_one(), share(0), fewest())[1:], [[0], [0, 0, 1], [50]])


if __name__ == "__main__":
    unittest.main()
