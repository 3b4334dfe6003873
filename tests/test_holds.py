"""What holds, the corners, and whole lines beside a plain model."""

import random
import unittest

from asking import (ALONE, CHANGE_PLACES, EVEN, FOUR, GREATEST, THREE, TWO, Model, after, apart, as_fraction, ask,
                    bound, come, fewest, forebears, next_one, share, shares, start)


def some_row(chance, size):
    """Of one field's hundred, how many come from each, often with a 0 or all from one."""
    cuts = sorted(chance.choice((0, 100, chance.randrange(101), chance.randrange(101))) for _ in range(size - 1))
    return [upper - lower for lower, upper in zip([0] + cuts, cuts + [100])]


def some_fields(chance):
    size = chance.choice((2, 3, 4))
    rows = [some_row(chance, size) for _ in range(size)]
    return size, [number for row in rows for number in row]


def some_call(chance):
    def field():
        return chance.choice((0, 1, 0, 1, 2, 3, 4, GREATEST))

    def n():
        return chance.choice((0, 1, 2, 3, 4, 5, GREATEST))

    kinds = [
        lambda: shares([chance.randrange(103) for _ in range(chance.randrange(2, 5))]),
        lambda: come(field(), field(), field(), chance.choice((0, 1, 5, 30, 100, 101, GREATEST))),
        lambda: share(field()), next_one, lambda: after(n(), field()), lambda: apart(n()), lambda: bound(n()),
        fewest, lambda: forebears(n(), field(), field()),
    ]
    return chance.choice(kinds)()


class BesideTheModel(unittest.TestCase):
    def test_whole_lines(self):
        for seed in range(300):
            chance = random.Random(seed)
            calls = [some_call(chance) for _ in range(chance.randrange(3))]
            for _ in range(3):
                size, row = some_fields(chance)
                calls.append(start(row))
                calls.append(shares([chance.randrange(101) for _ in range(size)]))
                calls += [some_call(chance) for _ in range(40)]
                calls.append(start([chance.randrange(60) for _ in range(size * size)]))
            model = Model()
            self.assertEqual(ask(*calls), [model.answer(call) for call in calls], seed)


class Holds(unittest.TestCase):
    def each(self):
        for seed in range(100):
            chance = random.Random(1000 + seed)
            size, row = some_fields(chance)
            told = [chance.randrange(101) for _ in range(size)]
            yield size, [start(row), shares(told)] + [next_one()] * (seed % 3)

    def test_never_further_apart(self):
        for size, begun in self.each():
            now = [as_fraction(answer) for answer in ask(*begun, *[share(i) for i in range(size)])[len(begun):]]
            reach = max(now) - min(now)
            for n in range(5):
                asked = [apart(n), bound(n)] + [after(n, i) for i in range(size)]
                seen = [as_fraction(answer) for answer in ask(*begun, *asked)[len(begun):]]
                self.assertTrue(min(now) <= min(seen[2:]) and max(seen[2:]) <= max(now))
                self.assertEqual(seen[0], max(seen[2:]) - min(seen[2:]))
                self.assertLessEqual(seen[0], seen[1])
                self.assertLessEqual(seen[0], reach)
                reach = seen[0]

    def test_by_its_forebears(self):
        for size, begun in self.each():
            now = [as_fraction(answer) for answer in ask(*begun, *[share(i) for i in range(size)])[len(begun):]]
            for n in range(5):
                for i in range(size):
                    asked = [after(n, i)] + [forebears(n, i, j) for j in range(size)]
                    seen = [as_fraction(answer) for answer in ask(*begun, *asked)[len(begun):]]
                    self.assertEqual(sum(seen[1:]), 1)
                    self.assertEqual(seen[0], sum(part * one for part, one in zip(seen[1:], now)))

    def test_forebears_of_forebears(self):
        for size, begun in self.each():
            def back(n, i, j):
                return as_fraction(ask(*begun, forebears(n, i, j))[-1])

            for near, far in ((1, 1), (1, 3), (3, 1), (2, 2), (0, 4)):
                parts = [back(near, 0, k) * back(far, k, size - 1) for k in range(size)]
                self.assertEqual(back(near + far, 0, size - 1), sum(parts))


class Corners(unittest.TestCase):
    def test_a_field_that_is_alone(self):
        seen = ask(start([100, 0, 0, 20, 50, 30, 0, 50, 50]), shares([17, 80, 40]), next_one(), next_one(), share(0),
                   after(4, 0), forebears(4, 0, 0), forebears(4, 0, 1), fewest(), bound(4), apart(0))
        self.assertEqual(seen[4:9], [[0, 17, 100], [0, 17, 100], [0, 1, 1], [0, 0, 1], [0]])
        self.assertEqual(seen[9], seen[10])

    def test_all_alone(self):
        self.assertEqual(ask(start(ALONE), shares([3, 9]), next_one(), share(0), share(1), apart(4), bound(4))[2:],
                         [[0], [0, 3, 100], [0, 9, 100], [0, 3, 50], [0, 3, 50]])

    def test_two_that_change_places(self):
        seen = ask(start(CHANGE_PLACES), shares([3, 50]), after(1, 0), after(2, 0), after(3, 0), after(4, 0),
                   forebears(3, 0, 0), forebears(3, 0, 1), forebears(4, 0, 0), next_one(), share(0), share(1))
        self.assertEqual(seen[2:], [[0, 1, 2], [0, 3, 100], [0, 1, 2], [0, 3, 100], [0, 0, 1], [0, 1, 1], [0, 1, 1],
                                    [0], [0, 1, 2], [0, 3, 100]])

    def test_changing_places_goes_on_for_ever(self):
        self.assertEqual(ask(start(CHANGE_PLACES), shares([3, 50]), *[next_one()] * 191, share(0), share(1))[2:],
                         [[0]] * 191 + [[0, 1, 2], [0, 3, 100]])

    def test_all_hundred_from_another(self):
        seen = ask(start([0, 100, 0, 0, 0, 100, 0, 0, 100]), shares([10, 20, 30]), after(1, 0), after(2, 0),
                   after(1, 1), forebears(1, 0, 1), forebears(2, 0, 2), forebears(2, 0, 1), apart(1), apart(2))
        self.assertEqual(seen[2:], [[0, 1, 5], [0, 3, 10], [0, 3, 10], [0, 1, 1], [0, 1, 1], [0, 0, 1], [0, 1, 10],
                                    [0, 0, 1]])
        self.assertEqual(ask(start(ALONE), come(0, 0, 1, 100), forebears(1, 0, 1))[1:], [[100], [0, 1, 1]])

    def test_shares_alike(self):
        for row, size in ((TWO, 2), (THREE, 3), (FOUR, 4)):
            seen = ask(start(row), shares([45] * size), next_one(), share(size - 1), after(4, 0), apart(0), apart(4),
                       bound(2))
            self.assertEqual(seen[2:], [[0], [0, 9, 20], [0, 9, 20], [0, 0, 1], [0, 0, 1], [0, 0, 1]])

    def test_a_generation_that_goes_by(self):
        self.assertEqual(ask(start(EVEN), shares([0, 30]), after(1, 0), next_one(), share(0), share(1), apart(0))[2:],
                         [[0, 3, 20], [0], [0, 3, 20], [0, 3, 20], [0, 0, 1]])


if __name__ == "__main__":
    unittest.main()
