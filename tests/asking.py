"""How the tests put calls into one list and take the answers apart, and a plain model to compare with."""

from fractions import Fraction

from fieldshares.wanderers import answers

GREATEST = 4294967295

EVEN = [50, 50, 50, 50]
ALONE = [100, 0, 0, 100]
CHANGE_PLACES = [0, 100, 100, 0]
TWO = [90, 10, 20, 80]
THREE = [70, 20, 10, 10, 60, 30, 5, 15, 80]
FOUR = [40, 30, 20, 10, 25, 25, 25, 25, 0, 0, 100, 0, 1, 2, 3, 94]
MIXED_FOUR = [40, 30, 20, 10, 25, 25, 25, 25, 10, 10, 70, 10, 10, 20, 30, 40]


def start(row):
    return [0, len(row)] + row


def shares(row):
    return [1, len(row)] + row


def come(i, j, k, n):
    return [2, i, j, k, n]


def share(i):
    return [3, i]


def next_one():
    return [4]


def after(n, i):
    return [5, n, i]


def apart(n):
    return [6, n]


def bound(n):
    return [7, n]


def fewest():
    return [8]


def forebears(n, i, j):
    return [9, n, i, j]


def reach(i, j):
    return [10, i, j]


def mixed():
    return [11]


def keeps(row):
    return [12, len(row)] + row


def weighed(row):
    return [13, len(row)] + row


def rest(a, b):
    return [14, a, b]


def pair(a, b, n):
    return [15, a, b, n]


def first(n):
    return [16, n]


def soon(m):
    return [17, m]


def alone(i):
    return [18, i]


def state():
    return [19]


def ask(*calls):
    """Each call's answer as a list of its own, in order."""
    line = []
    for call in calls:
        line.extend(call)
    given = answers(line)
    taken = []
    at = 0
    while at < len(given):
        end = at + 1 + given[at]
        taken.append(given[at + 1:end])
        at = end
    if at != len(given) or len(taken) != len(calls):
        raise AssertionError(f"{len(calls)} calls, but answered was {given}")
    return taken


def last(*calls):
    return ask(*calls)[-1]


def looks(size):
    """Calls that together tell all there is to see of so many fields."""
    calls = [share(i) for i in range(size)]
    calls += [forebears(1, i, j) for i in range(size) for j in range(size)]
    return calls + [state()]


def as_fraction(answer):
    if len(answer) != 3 or answer[0] != 0:
        raise AssertionError(f"not 0 and a fraction: {answer}")
    return Fraction(answer[1], answer[2])


def as_two_fractions(answer):
    if len(answer) != 5 or answer[0] != 0:
        raise AssertionError(f"not 0 and two fractions: {answer}")
    return Fraction(answer[1], answer[2]), Fraction(answer[3], answer[4])


class Model:
    """The document's words, reckoned anew with Python's own fractions."""

    def __init__(self):
        self.part = None
        self.now = None

    def told(self, fraction):
        return [0, fraction.numerator, fraction.denominator]

    def there(self, *fields):
        return all(field < len(self.part) for field in fields)

    def on(self, n):
        values = self.now
        for _ in range(n):
            values = [sum(p * v for p, v in zip(row, values)) for row in self.part]
        return values

    def back(self, n, i, j):
        if n == 0:
            return Fraction(int(i == j))
        return sum(self.part[i][k] * self.back(n - 1, k, j) for k in range(len(self.part)))

    def kinds_back(self, n):
        """Of each field the set of those that its plants' forebears are of."""
        kinds = [{i} for i in range(len(self.part))]
        for _ in range(n):
            kinds = [set().union(*[kinds[k] for k, p in enumerate(row) if p > 0]) for row in self.part]
        return kinds

    def answer(self, call):
        number, told = call[0], call[1:]
        if number == 0:
            return self.start(told[1:])
        if self.part is None:
            return [-11]
        calls = [None, self.shares, self.come, self.share, self.next, self.after,
                 self.apart, self.bound, self.fewest, self.forebears,
                 self.reach, self.mixed, self.keeps, self.weighed, self.rest,
                 self.pair, self.first, self.soon, self.alone, self.state]
        return calls[number](told[1:]) if number in (1, 12, 13) else calls[number](*told)

    def first_time(self, is_so):
        return next(([n] for n in range(5) if is_so(n)), [-33])

    def start(self, row):
        size = {4: 2, 9: 3, 16: 4}.get(len(row))
        if size is None:
            return [-22]
        rows = [row[at * size:(at + 1) * size] for at in range(size)]
        if [sum(one) for one in rows] != [100] * size:
            return [-22]
        self.part = [[Fraction(number, 100) for number in one] for one in rows]
        self.now = [Fraction(0)] * size
        return [size]

    def shares(self, row):
        if len(row) != len(self.part) or any(number > 100 for number in row):
            return [-22]
        self.now = [Fraction(number, 100) for number in row]
        return [0]

    def come(self, i, j, k, n):
        if not self.there(i, j, k) or n == 0:
            return [-22]
        if j == k or self.part[i][j] * 100 < n:
            return [-12]
        self.part[i][j] -= Fraction(n, 100)
        self.part[i][k] += Fraction(n, 100)
        return [int(self.part[i][k] * 100)]

    def share(self, i):
        return self.told(self.now[i]) if self.there(i) else [-22]

    def next(self):
        if any(value.denominator > 1000000 for value in self.now):
            return [-28]
        self.now = self.on(1)
        return [0]

    def after(self, n, i):
        return self.told(self.on(n)[i]) if n <= 4 and self.there(i) else [-22]

    def apart(self, n):
        return self.told(max(self.on(n)) - min(self.on(n))) if n <= 4 else [-22]

    def fewest(self):
        return [int(min(min(row) for row in self.part) * 100)]

    def bound(self, n):
        if n > 4:
            return [-22]
        least = min(min(row) for row in self.part)
        return self.told((max(self.now) - min(self.now)) * (1 - least * len(self.part)) ** n)

    def forebears(self, n, i, j):
        return self.told(self.back(n, i, j)) if n <= 4 and self.there(i, j) else [-22]

    def reach(self, i, j):
        return self.first_time(lambda n: j in self.kinds_back(n)[i]) if self.there(i, j) else [-22]

    def mixed(self):
        return self.first_time(lambda n: {len(kinds) for kinds in self.kinds_back(n)} == {len(self.part)})

    def are_weights(self, row):
        return len(row) == len(self.part) and all(weight <= 1000 for weight in row)

    def keeps(self, row):
        if not self.are_weights(row):
            return [-22]
        gone = [sum(weight * part[j] for weight, part in zip(row, self.part)) for j in range(len(row))]
        return [int(gone == row)]

    def weighed(self, row):
        return self.told(sum(w * v for w, v in zip(row, self.now))) if self.are_weights(row) else [-22]

    def about(self, a, b):
        """The share about which the first two go."""
        return (b * self.now[0] + a * self.now[1]) / (a + b) if a or b else self.now[0]

    def rest(self, a, b):
        return self.told(self.about(a, b)) if a <= 100 and b <= 100 else [-22]

    def pair(self, a, b, n):
        if a > 100 or b > 100 or n > 4:
            return [-22]
        about, part = self.about(a, b), (1 - Fraction(a + b, 100)) ** n
        both = [about + part * (value - about) for value in self.now[:2]]
        return self.told(both[0]) + self.told(both[1])[1:]

    def first(self, n):
        return [max(range(len(self.part)), key=lambda i: (self.on(n)[i], -i))] if n <= 4 else [-22]

    def soon(self, m):
        if not 1 <= m <= 1000:
            return [-22]
        return self.first_time(lambda n: max(self.on(n)) - min(self.on(n)) <= Fraction(1, m))

    def alone(self, i):
        return [int(self.part[i][i] == 1)] if self.there(i) else [-22]

    def state(self):
        return [len(self.part)] + [int(row[i] * 100) for i, row in enumerate(self.part)]
