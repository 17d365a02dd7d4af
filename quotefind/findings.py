"""Findings: the passages of one book that stand nearly alike in another."""

from quotefind.errors import TooMany
from quotefind.groups import best_groups
from quotefind.tables import open_worths
from quotefind.trails import Trails, greatest

FINDINGS_MOST = 20


class Finding:

    def __init__(self, worth, way, row, pairs):
        self.worth = worth
        self.way = way
        self.row = row
        self.pairs = pairs


def make_finding(trails, worth, pairs):
    ends = [pair for pair in pairs if trails.ending[pair[0]][pair[1]] == worth]
    way = trails.way_to(ends[0])
    row = [trails.ending[i][j] for i, j in way]
    return Finding(worth, way, row, pairs)


def make_round(worths, terms):
    """The findings of one round over the pairs that are open, none where no round comes any more."""
    trails = Trails(worths, terms)
    worth = greatest([greatest(row) for row in trails.ending])
    if worth is None or worth < terms.least:
        return []
    return [make_finding(trails, worth, pairs) for pairs in best_groups(trails, worth)]


def shut_pairs(worths, findings):
    for finding in findings:
        for i, j in finding.pairs:
            worths[i][j] = None


def order_of(finding):
    return (-finding.worth, finding.pairs[0])


def compare(first, second, terms):
    worths = open_worths(first, second, terms, None)
    findings = []
    made = make_round(worths, terms)
    while len(made) > 0:
        findings.extend(made)
        if len(findings) > FINDINGS_MOST:
            raise TooMany(f"there are at most {FINDINGS_MOST} findings between two books")
        shut_pairs(worths, made)
        made = make_round(worths, terms)
    return sorted(findings, key=order_of)
