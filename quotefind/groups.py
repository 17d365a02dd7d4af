"""Groups: the best pairs of a round, put together where they hang together."""


class Groups:
    """Pairs, each in just one group; a group is known by its lead, which is one of its pairs."""

    def __init__(self):
        self.leads = {}
        self.members = {}

    def has(self, pair):
        return pair in self.leads

    def take_in(self, pair):
        if pair not in self.leads:
            self.leads[pair] = pair
            self.members[pair] = [pair]

    def unite(self, pair, other):
        lead = self.leads[pair]
        gone = self.leads[other]
        if lead != gone:
            # The smaller group moves, so that no pair moves often.
            if len(self.members[lead]) < len(self.members[gone]):
                lead = self.leads[other]
                gone = self.leads[pair]
            moved = self.members.pop(gone)
            for member in moved:
                self.leads[member] = lead
            self.members[lead].extend(moved)

    def told(self):
        return [sorted(members) for members in self.members.values()]


class Gathering:
    """Walks back over the two books from the ends of all best ways.

    A crossing that a best way comes over is marked with a pair of that way. All best ways over one
    crossing can be put together anew there, the start of one with the end of another, and are worth
    the same: so all their pairs hang together.
    """

    def __init__(self, trails, worth):
        self.trails = trails
        self.worth = worth
        self.groups = Groups()
        self.marks = {}

    def mark(self, crossing, pair):
        if crossing in self.marks:
            self.groups.unite(self.marks[crossing], pair)
        else:
            self.marks[crossing] = pair

    def go_over(self, crossing, pair):
        later = self.marks[crossing]
        if self.trails.is_brought_by(crossing, pair):
            self.groups.take_in(pair)
            self.groups.unite(pair, later)
        for before in self.trails.crossings_before(crossing):
            self.mark(before, later)

    def visit(self, i, j):
        pair = (i, j)
        behind = (i + 1, j + 1)
        if self.trails.ending[i][j] == self.worth:
            self.groups.take_in(pair)
        if behind in self.marks:
            self.go_over(behind, pair)
        if self.groups.has(pair) and self.trails.goes_on(pair):
            self.mark(pair, pair)


def best_groups(trails, worth):
    """All best pairs of a round of this worth: a list of pairs for each group that hangs together."""
    gathering = Gathering(trails, worth)
    # Backwards, so that a crossing has all its marks before it is gone over.
    for i in range(len(trails.ending) - 1, -1, -1):
        for j in range(len(trails.ending[i]) - 1, -1, -1):
            gathering.visit(i, j)
    return gathering.groups.told()
