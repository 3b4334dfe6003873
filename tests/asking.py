"""How the tests put calls into one list and take the answers apart, and a plain model to compare with."""

from fractions import Fraction

from fieldshares.wanderers import answers

GREATEST = 4294967295

EVEN = [50, 50, 50, 50]
ALONE = [100, 0, 0, 100]
CHANGE_PLACES = [0, 100, 100, 0]
TWO = [90, 10, 20, 80]
THREE = [70, 20, 10, 10, 60, 30, 5, 15, 80]
FOUR = [40, 30, 20, 10, 25, 25, 25, 25, 0, 0, 100, 0, 1, 2, 3, 94]


def start(row):
    return [0, len(row)] + row


def shares(row):
    return [1, len(row)] + row


def come(i, j, k, n):
    return [2, i, j, k, n]


def share(i):
    return [3, i]


def next_one():
    return [4]


def after(n, i):
    return [5, n, i]


def apart(n):
    return [6, n]


def bound(n):
    return [7, n]


def fewest():
    return [8]


def forebears(n, i, j):
    return [9, n, i, j]


def later_calls():
    """Each of the calls 10 to 19, with numbers that would be other calls if they were read as such."""
    return [
        [10, 0, 1], [11], [12, 2, 4, 4], [13, 3, 8, 8, 8], [14, 4, 4],
        [15, 4, 8, 4], [16, 4], [17, 4], [18, 0], [19],
    ]


def ask(*calls):
    """Each call's answer as a list of its own, in order."""
    line = []
    for call in calls:
        line.extend(call)
    given = answers(line)
    taken = []
    at = 0
    while at < len(given):
        end = at + 1 + given[at]
        taken.append(given[at + 1:end])
        at = end
    if at != len(given) or len(taken) != len(calls):
        raise AssertionError(f"{len(calls)} calls, but answered was {given}")
    return taken


def last(*calls):
    return ask(*calls)[-1]


def looks(size):
    """Calls that together tell all there is to see of so many fields."""
    calls = [share(i) for i in range(size)]
    calls += [forebears(1, i, j) for i in range(size) for j in range(size)]
    return calls


def as_fraction(answer):
    if len(answer) != 3 or answer[0] != 0:
        raise AssertionError(f"not 0 and a fraction: {answer}")
    return Fraction(answer[1], answer[2])


class Model:
    """The document's words, reckoned anew with Python's own fractions."""

    def __init__(self):
        self.part = None
        self.now = None

    def told(self, fraction):
        return [0, fraction.numerator, fraction.denominator]

    def there(self, *fields):
        return all(field < len(self.part) for field in fields)

    def on(self, n):
        values = self.now
        for _ in range(n):
            values = [sum(p * v for p, v in zip(row, values)) for row in self.part]
        return values

    def back(self, n, i, j):
        if n == 0:
            return Fraction(int(i == j))
        return sum(self.part[i][k] * self.back(n - 1, k, j) for k in range(len(self.part)))

    def answer(self, call):
        number, told = call[0], call[1:]
        if number == 0:
            return self.start(told[1:])
        if self.part is None:
            return [-11]
        calls = [None, self.shares, self.come, self.share, self.next, self.after,
                 self.apart, self.bound, self.fewest, self.forebears]
        return calls[number](told[1:]) if number == 1 else calls[number](*told)

    def start(self, row):
        size = {4: 2, 9: 3, 16: 4}.get(len(row))
        if size is None:
            return [-22]
        rows = [row[at * size:(at + 1) * size] for at in range(size)]
        if [sum(one) for one in rows] != [100] * size:
            return [-22]
        self.part = [[Fraction(number, 100) for number in one] for one in rows]
        self.now = [Fraction(0)] * size
        return [size]

    def shares(self, row):
        if len(row) != len(self.part) or any(number > 100 for number in row):
            return [-22]
        self.now = [Fraction(number, 100) for number in row]
        return [0]

    def come(self, i, j, k, n):
        if not self.there(i, j, k) or n == 0:
            return [-22]
        if j == k or self.part[i][j] * 100 < n:
            return [-12]
        self.part[i][j] -= Fraction(n, 100)
        self.part[i][k] += Fraction(n, 100)
        return [int(self.part[i][k] * 100)]

    def share(self, i):
        return self.told(self.now[i]) if self.there(i) else [-22]

    def next(self):
        if any(value.denominator > 1000000 for value in self.now):
            return [-28]
        self.now = self.on(1)
        return [0]

    def after(self, n, i):
        return self.told(self.on(n)[i]) if n <= 4 and self.there(i) else [-22]

    def apart(self, n):
        return self.told(max(self.on(n)) - min(self.on(n))) if n <= 4 else [-22]

    def fewest(self):
        return [int(min(min(row) for row in self.part) * 100)]

    def bound(self, n):
        if n > 4:
            return [-22]
        least = min(min(row) for row in self.part)
        return self.told((max(self.now) - min(self.now)) * (1 - least * len(self.part)) ** n)

    def forebears(self, n, i, j):
        return self.told(self.back(n, i, j)) if n <= 4 and self.there(i, j) else [-22]
