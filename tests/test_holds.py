"""What holds, the corners, and whole lines beside a plain model."""

import random
import unittest
from fractions import Fraction
from math import lcm

from asking import (ALONE, CHANGE_PLACES, EVEN, FOUR, GREATEST, THREE, TWO, Model, after, alone, apart, as_fraction,
                    as_two_fractions, ask, bound, come, fewest, first, forebears, keeps, last, mixed, next_one, pair,
                    reach, rest, share, shares, soon, start, state, weighed)


def some_row(chance, size):
    """Of one field's hundred, how many come from each, often with a 0 or all from one."""
    cuts = sorted(chance.choice((0, 100, chance.randrange(101), chance.randrange(101))) for _ in range(size - 1))
    return [upper - lower for lower, upper in zip([0] + cuts, cuts + [100])]


def some_fields(chance):
    size = chance.choice((2, 3, 4))
    rows = [some_row(chance, size) for _ in range(size)]
    return size, [number for row in rows for number in row]


def some_kept_fields(chance, size):
    """Fields of which as many of each weight come to and fro between two, and these weights, which keep."""
    weights = [chance.choice((1, 2, 3, 4)) for _ in range(size)]
    rows = [[0] * size for _ in range(size)]
    for i in range(size):
        for j in range(i):
            moved = lcm(weights[i], weights[j]) * chance.randrange(3)
            rows[i][j] = moved // weights[i]
            rows[j][i] = moved // weights[j]
    for i in range(size):
        rows[i][i] = 100 - sum(rows[i])
    return [number for row in rows for number in row], weights


def some_call(chance):
    def weights():
        size, most = chance.choice((2, 2, 3, 4, 5)), chance.choice((0, 1, 1, 1000, 1001))
        return [chance.choice((most, chance.randrange(most + 1))) for _ in range(size)]

    def hundredths():
        return chance.choice((0, 1, 50, 100, 101, GREATEST, chance.randrange(101), chance.randrange(101)))

    def field():
        return chance.choice((0, 1, 0, 1, 2, 3, 4, GREATEST))

    def n():
        return chance.choice((0, 1, 2, 3, 4, 5, GREATEST))

    kinds = [
        lambda: shares([chance.randrange(103) for _ in range(chance.randrange(2, 5))]),
        lambda: come(field(), field(), field(), chance.choice((0, 1, 5, 30, 100, 101, GREATEST))),
        lambda: share(field()), next_one, lambda: after(n(), field()), lambda: apart(n()), lambda: bound(n()),
        fewest, lambda: forebears(n(), field(), field()), lambda: reach(field(), field()), mixed,
        lambda: keeps(weights()), lambda: weighed(weights()), lambda: rest(hundredths(), hundredths()),
        lambda: pair(hundredths(), hundredths(), n()), lambda: first(n()),
        lambda: soon(chance.choice((0, 1, 2, 3, 5, 10, 20, 100, 1000, 1001, GREATEST, chance.randrange(1, 40)))),
        lambda: alone(field()), state,
    ]
    return chance.choice(kinds)()


class BesideTheModel(unittest.TestCase):
    def test_whole_lines(self):
        for seed in range(300):
            chance = random.Random(seed)
            calls = [some_call(chance) for _ in range(chance.randrange(3))]
            for _ in range(3):
                size, row = some_fields(chance)
                calls.append(start(row))
                calls.append(shares([chance.randrange(101) for _ in range(size)]))
                calls += [some_call(chance) for _ in range(60)]
                calls.append(start([chance.randrange(60) for _ in range(size * size)]))
            model = Model()
            self.assertEqual(ask(*calls), [model.answer(call) for call in calls], seed)


class Holds(unittest.TestCase):
    def each(self):
        for seed in range(100):
            chance = random.Random(1000 + seed)
            size, row = some_fields(chance)
            told = [chance.randrange(101) for _ in range(size)]
            yield size, [start(row), shares(told)] + [next_one()] * (seed % 3)

    def test_never_further_apart(self):
        for size, begun in self.each():
            now = [as_fraction(answer) for answer in ask(*begun, *[share(i) for i in range(size)])[len(begun):]]
            reach = max(now) - min(now)
            for n in range(5):
                asked = [apart(n), bound(n)] + [after(n, i) for i in range(size)]
                seen = [as_fraction(answer) for answer in ask(*begun, *asked)[len(begun):]]
                self.assertTrue(min(now) <= min(seen[2:]) and max(seen[2:]) <= max(now))
                self.assertEqual(seen[0], max(seen[2:]) - min(seen[2:]))
                self.assertLessEqual(seen[0], seen[1])
                self.assertLessEqual(seen[0], reach)
                reach = seen[0]

    def test_by_its_forebears(self):
        for size, begun in self.each():
            now = [as_fraction(answer) for answer in ask(*begun, *[share(i) for i in range(size)])[len(begun):]]
            for n in range(5):
                for i in range(size):
                    asked = [after(n, i)] + [forebears(n, i, j) for j in range(size)]
                    seen = [as_fraction(answer) for answer in ask(*begun, *asked)[len(begun):]]
                    self.assertEqual(sum(seen[1:]), 1)
                    self.assertEqual(seen[0], sum(part * one for part, one in zip(seen[1:], now)))

    def test_forebears_of_forebears(self):
        for size, begun in self.each():
            def back(n, i, j):
                return as_fraction(ask(*begun, forebears(n, i, j))[-1])

            for near, far in ((1, 1), (1, 3), (3, 1), (2, 2), (0, 4)):
                parts = [back(near, 0, k) * back(far, k, size - 1) for k in range(size)]
                self.assertEqual(back(near + far, 0, size - 1), sum(parts))


    def test_once_mixed_always(self):
        seen_mixed = 0
        for size, begun in self.each():
            for gone in ([], [next_one()] * 2):
                when = last(*begun, *gone, mixed())[0]
                for n in range(5):
                    asked = [forebears(n, i, j) for i in range(size) for j in range(size)]
                    some = [answer[1] > 0 for answer in ask(*begun, *gone, *asked)[len(begun) + len(gone):]]
                    self.assertEqual(all(some), when != -33 and n >= when)
            seen_mixed += when != -33
        self.assertGreater(seen_mixed, 10)

    def test_whoever_is_reached_has_forebears(self):
        for size, begun in self.each():
            for i in range(size):
                for j in range(size):
                    when = last(*begun, reach(i, j))[0]
                    parts = [last(*begun, forebears(n, i, j))[1] for n in range(5)]
                    self.assertEqual(when, next((n for n, part in enumerate(parts) if part > 0), -33))

    def test_first_and_soon_as_after_and_apart_tell_them(self):
        for size, begun in self.each():
            for n in range(5):
                seen = [as_fraction(answer) for answer in ask(*begun, *[after(n, i) for i in range(size)])[len(begun):]]
                self.assertEqual(last(*begun, first(n)), [seen.index(max(seen))])
            far = [as_fraction(answer) for answer in ask(*begun, *[apart(n) for n in range(5)])[len(begun):]]
            for m in (1, 2, 3, 7, 10, 50, 400, 1000):
                self.assertEqual(last(*begun, soon(m)),
                                 [next((n for n, one in enumerate(far) if one * m <= 1), -33)])

    def test_weights_that_keep_keep_the_sum(self):
        for seed in range(100):
            chance = random.Random(2000 + seed)
            size = chance.choice((2, 3, 4))
            row, weights = some_kept_fields(chance, size)
            told = [chance.randrange(101) for _ in range(size)]
            seen = ask(start(row), shares(told), keeps(weights), weighed(weights), next_one(), weighed(weights),
                       next_one(), weighed(weights), next_one(), weighed(weights), keeps(weights))
            self.assertEqual([seen[2], seen[10]], [[1], [1]])
            self.assertEqual(as_fraction(seen[3]), sum(w * Fraction(one, 100) for w, one in zip(weights, told)))
            self.assertEqual([seen[5], seen[7], seen[9]], [seen[3]] * 3)

    def test_weights_that_do_not_keep_do_not_for_some(self):
        kept = 0
        for seed in range(200):
            chance = random.Random(3000 + seed)
            size = chance.choice((2, 3, 4))
            row, weights = some_kept_fields(chance, size)
            weights[chance.randrange(size)] += chance.choice((0, 1, 500))
            same = []
            for at in range(size):
                told = [0] * size
                told[at] = 100
                seen = ask(start(row), shares(told), weighed(weights), next_one(), weighed(weights))
                same.append(seen[2] == seen[4])
            self.assertEqual(last(start(row), keeps(weights)), [int(all(same))], (row, weights))
            kept += all(same)
        self.assertTrue(50 < kept < 150)

    def test_each_generation_the_same_part(self):
        for seed in range(200):
            chance = random.Random(4000 + seed)
            size, row = some_fields(chance)
            begun = [start(row), shares([chance.randrange(101) for _ in range(size)])] + [next_one()] * (seed % 3)
            a, b = [chance.choice((0, 100, chance.randrange(101), chance.randrange(101))) for _ in range(2)]
            about = as_fraction(last(*begun, rest(a, b)))
            both = [as_two_fractions(last(*begun, pair(a, b, n))) for n in range(5)]
            part = 1 - Fraction(a + b, 100)
            for now, then in zip(both, both[1:]):
                if a + b > 0:
                    self.assertEqual([one - about for one in then], [part * (one - about) for one in now])
                else:
                    self.assertEqual(then, now)

    def test_the_share_about_which_both_go_stays(self):
        for seed in range(100):
            chance = random.Random(5000 + seed)
            a, b = chance.randrange(101), chance.randrange(101)
            told = [chance.randrange(101), chance.randrange(101)]
            seen = ask(start([100 - a, a, b, 100 - b]), shares(told), rest(a, b), next_one(), rest(a, b), next_one(),
                       rest(a, b), keeps([b, a]))
            self.assertEqual([seen[4], seen[6], seen[7]], [seen[2], seen[2], [1]])


class Corners(unittest.TestCase):
    def test_a_field_that_is_alone(self):
        seen = ask(start([100, 0, 0, 20, 50, 30, 0, 50, 50]), shares([17, 80, 40]), next_one(), next_one(), share(0),
                   after(4, 0), forebears(4, 0, 0), forebears(4, 0, 1), fewest(), bound(4), apart(0))
        self.assertEqual(seen[4:9], [[0, 17, 100], [0, 17, 100], [0, 1, 1], [0, 0, 1], [0]])
        self.assertEqual(seen[9], seen[10])

    def test_all_alone(self):
        self.assertEqual(ask(start(ALONE), shares([3, 9]), next_one(), share(0), share(1), apart(4), bound(4))[2:],
                         [[0], [0, 3, 100], [0, 9, 100], [0, 3, 50], [0, 3, 50]])

    def test_the_later_calls_with_a_field_that_is_alone(self):
        seen = ask(start([100, 0, 0, 20, 50, 30, 0, 50, 50]), shares([17, 80, 40]), alone(0), alone(1), state(),
                   reach(0, 1), reach(2, 0), mixed(), keeps([1, 0, 0]), keeps([1, 1, 0]), first(4), soon(1), soon(3),
                   soon(4))
        # The others are 80 and 40, 55.4 and 60, 49.1 and 57.7, 45.26 and 53.4, 42.05 and 49.33 of 100.
        self.assertEqual(seen[2:], [[1], [0], [3, 100, 50, 50], [-33], [2], [-33], [1], [0], [2], [0], [4], [-33]])

    def test_the_later_calls_with_two_that_change_places(self):
        seen = ask(start(CHANGE_PLACES), shares([3, 50]), alone(0), state(), reach(0, 0), reach(0, 1), mixed(),
                   keeps([4, 4]), keeps([4, 5]), weighed([1, 0]), next_one(), weighed([1, 0]), rest(100, 100),
                   pair(100, 100, 1), first(0), first(1), soon(2), soon(3))
        self.assertEqual(seen[2:], [[0], [2, 0, 0], [0], [1], [-33], [1], [0], [0, 3, 100], [0], [0, 1, 2],
                                    [0, 53, 200], [0, 3, 100, 1, 2], [0], [1], [0], [-33]])

    def test_the_later_calls_with_all_hundred_from_another(self):
        seen = ask(start([0, 100, 0, 0, 0, 100, 0, 0, 100]), shares([10, 20, 30]), alone(0), alone(2), state(),
                   reach(0, 2), reach(0, 1), reach(2, 0), mixed(), keeps([0, 0, 5]), keeps([1, 0, 0]), first(0),
                   first(2), soon(5), soon(10), soon(1000))
        self.assertEqual(seen[2:], [[0], [1], [3, 0, 0, 100], [2], [1], [-33], [-33], [1], [0], [2], [0], [0], [1],
                                    [2]])

    def test_two_that_change_places(self):
        seen = ask(start(CHANGE_PLACES), shares([3, 50]), after(1, 0), after(2, 0), after(3, 0), after(4, 0),
                   forebears(3, 0, 0), forebears(3, 0, 1), forebears(4, 0, 0), next_one(), share(0), share(1))
        self.assertEqual(seen[2:], [[0, 1, 2], [0, 3, 100], [0, 1, 2], [0, 3, 100], [0, 0, 1], [0, 1, 1], [0, 1, 1],
                                    [0], [0, 1, 2], [0, 3, 100]])

    def test_changing_places_goes_on_for_ever(self):
        self.assertEqual(ask(start(CHANGE_PLACES), shares([3, 50]), *[next_one()] * 191, share(0), share(1))[2:],
                         [[0]] * 191 + [[0, 1, 2], [0, 3, 100]])

    def test_all_hundred_from_another(self):
        seen = ask(start([0, 100, 0, 0, 0, 100, 0, 0, 100]), shares([10, 20, 30]), after(1, 0), after(2, 0),
                   after(1, 1), forebears(1, 0, 1), forebears(2, 0, 2), forebears(2, 0, 1), apart(1), apart(2))
        self.assertEqual(seen[2:], [[0, 1, 5], [0, 3, 10], [0, 3, 10], [0, 1, 1], [0, 1, 1], [0, 0, 1], [0, 1, 10],
                                    [0, 0, 1]])
        self.assertEqual(ask(start(ALONE), come(0, 0, 1, 100), forebears(1, 0, 1))[1:], [[100], [0, 1, 1]])

    def test_shares_alike(self):
        for row, size in ((TWO, 2), (THREE, 3), (FOUR, 4)):
            seen = ask(start(row), shares([45] * size), next_one(), share(size - 1), after(4, 0), apart(0), apart(4),
                       bound(2))
            self.assertEqual(seen[2:], [[0], [0, 9, 20], [0, 9, 20], [0, 0, 1], [0, 0, 1], [0, 0, 1]])

    def test_a_generation_that_goes_by(self):
        self.assertEqual(ask(start(EVEN), shares([0, 30]), after(1, 0), next_one(), share(0), share(1), apart(0))[2:],
                         [[0, 3, 20], [0], [0, 3, 20], [0, 3, 20], [0, 0, 1]])


if __name__ == "__main__":
    unittest.main()
