"""Trails: how the worth of ways over open pairs is carried along from place to place."""


def greatest(numbers):
    return max([number for number in numbers if number is not None], default=None)


def less(number, price):
    return None if number is None else number - price


def begun_or_gone_on(worth, brought):
    if worth is None:
        return None
    # What brings a loss is left behind: the pair begins a way of its own.
    if brought is None or brought < 0:
        return worth
    return worth + brought


class Trails:
    """Two tables, made of the worths of the open pairs (None for a pair that is not open).

    ending[i][j]: the greatest worth of all ways that have (i, j) as their last pair, or None.
    brought[i][j]: what ways bring to the crossing ahead of places i and j: the greatest worth of all
    ways with pairs before i and before j alone, less the price of the words between; None without any.
    It has a row and a column more than the books have places, for what lies behind their ends.
    """

    def __init__(self, worths, terms):
        self.out = terms.out
        self.into = terms.into
        width = len(worths[0]) if len(worths) > 0 else 0
        self.ending = []
        self.brought = [[None] * (width + 1)]
        for row in worths:
            above = self.brought[-1]
            ended = [begun_or_gone_on(worth, above[j]) for j, worth in enumerate(row)]
            self.ending.append(ended)
            self.brought.append(self.brought_behind(ended, above))

    def brought_behind(self, ended, above):
        row = [None]
        for j, worth in enumerate(ended):
            row.append(greatest([worth, less(above[j + 1], self.out), less(row[j], self.into)]))
        return row

    def goes_on(self, pair):
        """Whether a best way that ends with the pair can have a pair ahead of it."""
        brought = self.brought[pair[0]][pair[1]]
        # Nought counts too: with and without what lies ahead, the way is worth the same.
        return brought is not None and brought >= 0

    def crossings_before(self, crossing):
        """The neighbouring crossings from which what is brought to this one can come."""
        i = crossing[0]
        j = crossing[1]
        brought = self.brought[i][j]
        found = []
        if less(self.brought[i - 1][j], self.out) == brought:
            found.append((i - 1, j))
        if less(self.brought[i][j - 1], self.into) == brought:
            found.append((i, j - 1))
        return found

    def is_brought_by(self, crossing, pair):
        """Whether what is brought to a crossing can come from the pair straight ahead of it."""
        return self.ending[pair[0]][pair[1]] == self.brought[crossing[0]][crossing[1]]

    def pair_before(self, pair):
        crossing = pair
        ahead = (crossing[0] - 1, crossing[1] - 1)
        while not self.is_brought_by(crossing, ahead):
            crossing = self.crossings_before(crossing)[0]
            ahead = (crossing[0] - 1, crossing[1] - 1)
        return ahead

    def way_to(self, pair):
        """A way that ends with the pair and is worth as much as any that does."""
        way = [pair]
        while self.goes_on(way[-1]):
            way.append(self.pair_before(way[-1]))
        way.reverse()
        return way
