"""Tables: for each pair of places the best that ways over open pairs can be worth there."""

from quotefind.trails import Trails


def shut_by(taken):
    shut = {}
    if taken is not None:
        for pair in taken:
            shut[pair] = True
    return shut


def open_worths(first, second, terms, taken):
    """The worths of all open pairs, None for all others."""
    shut = shut_by(taken)
    worths = []
    for i, x in enumerate(first):
        row = [None if (i, j) in shut else terms.pair_worth(x, y) for j, y in enumerate(second)]
        worths.append(row)
    return worths


def read_backwards(table):
    return [list(reversed(row)) for row in reversed(table)]


def starting_table(worths, terms):
    # A way that starts with a pair ends with it when both books are read backwards, at the same prices.
    return read_backwards(Trails(read_backwards(worths), terms).ending)


def through_worth(worth, ending, starting):
    # The pair itself is in both, and counts once.
    return None if worth is None else ending + starting - worth


def best_ending(first, second, terms, taken=None):
    return Trails(open_worths(first, second, terms, taken), terms).ending


def best_starting(first, second, terms, taken=None):
    return starting_table(open_worths(first, second, terms, taken), terms)


def best_through(first, second, terms, taken=None):
    worths = open_worths(first, second, terms, taken)
    ending = Trails(worths, terms).ending
    starting = starting_table(worths, terms)
    table = []
    for i, row in enumerate(worths):
        table.append([through_worth(worth, ending[i][j], starting[i][j]) for j, worth in enumerate(row)])
    return table
