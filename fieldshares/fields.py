"""The fields: where the plants of each come from, and what share each has."""

from fieldshares.parts import HUNDRED, lowest, power


def generations_on(rows, uppers, n):
    """The upper numbers n generations on; with each generation the lower one is a hundred times as great."""
    for generation in range(n):
        uppers = [weighed_sum(row, uppers) for row in rows]
    return uppers


def weighed_sum(weights, uppers):
    return sum([weight * upper for weight, upper in zip(weights, uppers)])


class Fields:
    """All shares stand over one lower number, so that they are added and compared as whole numbers."""

    def __init__(self):
        self.rows = []
        self.uppers = []
        self.common_lower = 1

    def how_many(self):
        return len(self.rows)

    def begin(self, rows):
        self.rows = rows
        self.tell_shares([0 for row in rows])

    def tell_shares(self, hundredths):
        self.uppers = hundredths
        self.common_lower = HUNDRED

    def comers(self, i, j):
        """How many of field i's hundred come from field j."""
        return self.rows[i][j]

    def comers_from(self, j):
        """Field by field, how many of its hundred come from field j."""
        return [row[j] for row in self.rows]

    def own_comers(self, i):
        return self.comers(i, i)

    def move_comers(self, i, j, k, n):
        row = self.rows[i]
        row[j] -= n
        row[k] += n

    def go_by(self):
        self.uppers = generations_on(self.rows, self.uppers, 1)
        self.common_lower *= HUNDRED

    def greatest_lower(self):
        """The greatest lower number of a share, each share for itself in lowest terms."""
        return max([lowest(upper, self.common_lower)[1] for upper in self.uppers])

    def lower_after(self, n):
        return self.common_lower * power(HUNDRED, n)

    def share_after(self, n, i):
        uppers = generations_on(self.rows, self.uppers, n)
        return lowest(uppers[i], self.lower_after(n))

    def apart_after(self, n):
        uppers = generations_on(self.rows, self.uppers, n)
        return lowest(max(uppers) - min(uppers), self.lower_after(n))

    def is_near_after(self, n, m):
        """Whether shares are apart by one part in m at most."""
        apart = self.apart_after(n)
        return apart[0] * m <= apart[1]

    def first_greatest_after(self, n):
        uppers = generations_on(self.rows, self.uppers, n)
        return uppers.index(max(uppers))

    def fewest(self):
        return min([min(row) for row in self.rows])

    def bound_after(self, n):
        left = HUNDRED - self.fewest() * self.how_many()
        apart = max(self.uppers) - min(self.uppers)
        return lowest(apart * power(left, n), self.lower_after(n))

    def forebear_uppers(self, n, j):
        """Forebears go as a share does that is 1 in field j and 0 in all others."""
        of_j = [1 if field == j else 0 for field in range(self.how_many())]
        return generations_on(self.rows, of_j, n)

    def forebears_after(self, n, i, j):
        return lowest(self.forebear_uppers(n, j)[i], power(HUNDRED, n))

    def has_some_after(self, n, i, j):
        return self.forebear_uppers(n, j)[i] > 0

    def is_mixed_after(self, n):
        return all([min(self.forebear_uppers(n, j)) > 0 for j in range(self.how_many())])

    def are_keeping(self, weights):
        """Whether these weights keep the sum of weights times shares, whatever the shares."""
        return all([weighed_sum(weights, self.comers_from(j)) == HUNDRED * own for j, own in enumerate(weights)])

    def weighed(self, weights):
        return lowest(weighed_sum(weights, self.uppers), self.common_lower)

    def rest_of_two(self, a, b):
        if a + b == 0:
            return self.share_after(0, 0)
        return lowest(self.uppers[0] * b + self.uppers[1] * a, self.common_lower * (a + b))

    def two_after(self, a, b, n):
        """Both shares, one fraction behind the other, as if there were fields 0 and 1 alone."""
        rows = [[HUNDRED - a, a], [b, HUNDRED - b]]
        uppers = generations_on(rows, self.uppers[:2], n)
        return lowest(uppers[0], self.lower_after(n)) + lowest(uppers[1], self.lower_after(n))
