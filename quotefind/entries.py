"""Entries: what a library keeps and tells of a finding between two of its books."""


class Entry:

    def __init__(self, number, older, newer, worth, way, row, pairs, left=False):
        self.number = number
        self.older = older
        self.newer = newer
        self.worth = worth
        # Copies, so that a change of the lists that were handed in changes no entry.
        self.way = list(way)
        self.row = list(row)
        self.pairs = list(pairs)
        self.left = left


def entry_of(number, older, newer, finding):
    return Entry(number, older, newer, finding.worth, finding.way, finding.row, finding.pairs)


def copied(entry):
    return Entry(entry.number, entry.older, entry.newer, entry.worth, entry.way, entry.row, entry.pairs, entry.left)
