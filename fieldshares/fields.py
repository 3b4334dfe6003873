"""The fields: where the plants of each come from, and what share each has."""

from fieldshares.parts import HUNDRED, lowest, power


def generations_on(rows, uppers, n):
    """The upper numbers n generations on; with each generation the lower one is a hundred times as great."""
    for generation in range(n):
        uppers = [weighed_sum(row, uppers) for row in rows]
    return uppers


def weighed_sum(weights, uppers):
    return sum([weight * upper for weight, upper in zip(weights, uppers)])


class Fields:
    """All shares stand over one lower number, so that they are added and compared as whole numbers."""

    def __init__(self):
        self.rows = []
        self.uppers = []
        self.common_lower = 1

    def how_many(self):
        return len(self.rows)

    def begin(self, rows):
        self.rows = rows
        self.tell_shares([0 for row in rows])

    def tell_shares(self, hundredths):
        self.uppers = hundredths
        self.common_lower = HUNDRED

    def comers(self, i, j):
        """How many of field i's hundred come from field j."""
        return self.rows[i][j]

    def move_comers(self, i, j, k, n):
        row = self.rows[i]
        row[j] -= n
        row[k] += n

    def go_by(self):
        self.uppers = generations_on(self.rows, self.uppers, 1)
        self.common_lower *= HUNDRED

    def greatest_lower(self):
        """The greatest lower number of a share, each share for itself in lowest terms."""
        return max([lowest(upper, self.common_lower)[1] for upper in self.uppers])

    def share_after(self, n, i):
        uppers = generations_on(self.rows, self.uppers, n)
        return lowest(uppers[i], self.common_lower * power(HUNDRED, n))

    def apart_after(self, n):
        uppers = generations_on(self.rows, self.uppers, n)
        return lowest(max(uppers) - min(uppers), self.common_lower * power(HUNDRED, n))

    def fewest(self):
        return min([min(row) for row in self.rows])

    def bound_after(self, n):
        left = HUNDRED - self.fewest() * self.how_many()
        apart = max(self.uppers) - min(self.uppers)
        return lowest(apart * power(left, n), self.common_lower * power(HUNDRED, n))

    def forebears_after(self, n, i, j):
        """Forebears go as a share does that is 1 in field j and 0 in all others."""
        of_j = [1 if field == j else 0 for field in range(self.how_many())]
        return lowest(generations_on(self.rows, of_j, n)[i], power(HUNDRED, n))
