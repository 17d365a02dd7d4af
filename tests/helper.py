"""What several tests share."""

import itertools

from quotefind.terms import Terms

# Every sign that a text may have: from the blank to ~, without the sign of per cent.
SIGNS = [chr(code) for code in range(ord(" "), ord("~") + 1) if chr(code) != "%"]

LETTERS = "abcdefghijklmnopqrstuvwxyz"


def refusal_of(call, *args, **kwargs):
    """The very class of the error that a call raises, or None."""
    try:
        call(*args, **kwargs)
    except Exception as error:
        return type(error)
    return None


def word_of(number):
    """A word of three letters, another one for each number below 17576."""
    return LETTERS[number // 676] + LETTERS[number // 26 % 26] + LETTERS[number % 26]


def near_forms(count):
    """So many near forms, no two with the same two words."""
    return [(word_of(number), word_of(number + 1), number) for number in range(count)]


class Numbers:
    """A row of numbers that looks like chance and is the same at each run."""

    def __init__(self, seed):
        self.state = seed

    def below(self, bound):
        self.state = (self.state * 6364136223846793005 + 1442695040888963407) % 2 ** 64
        return (self.state >> 33) % bound

    def one_of(self, members):
        return members[self.below(len(members))]

    def book(self, letters, length):
        return [self.one_of(letters) for place in range(length)]


def small_books(letters, most):
    """Every book of up to so many words, each word one of the letters."""
    return [list(words) for length in range(most + 1) for words in itertools.product(letters, repeat=length)]


# Terms for small books of the words a, b and c: with gaps of every price, with pairs worth less than
# the others, worth nought and worth less than nought.
SMALL_TERMS = [
    Terms(1, 0, 0, 1),
    Terms(3, 1, 1, 1),
    Terms(3, 1, 2, 4),
    Terms(2, 3, 0, 2),
    Terms(2, 0, 3, 3),
    Terms(5, 999999, 999999, 5),
    Terms(4, 1, 2, 4, near=[("a", "b", 4)]),
    Terms(4, 2, 1, 3, near=[("a", "b", 6)]),
    Terms(2, 0, 0, 2, near=[("b", "a", 2), ("a", "c", 2)]),
    Terms(2, 0, 0, 4, near=[("a", "b", 3), ("c", "b", 1)]),
    Terms(6, 4, 4, 6, near=[("a", "b", 7), ("b", "a", 0)]),
    Terms(3, 3, 3, 3, near=[("a", "b", 1), ("b", "a", 2), ("b", "c", 3)]),
    Terms(4, 2, 2, 4, near=[("a", "c", 4), ("c", "a", 4), ("b", "c", 8)]),
]


# What follows is made straight of the document's words, without the program's own ways and tables.

def standing_worth(x, y, terms):
    """Point 9."""
    if x == y:
        return terms.same
    for near_x, near_y, price in terms.near:
        if (near_x, near_y) == (x, y):
            return terms.same - price
    return None


def gap_price(terms, pair, later):
    return terms.out * (later[0] - pair[0] - 1) + terms.into * (later[1] - pair[1] - 1)


def lies_before(pair, later):
    return pair[0] < later[0] and pair[1] < later[1]


def worth_by_sum(first, second, terms, way):
    """Point 11."""
    pairs = sum(standing_worth(first[i], second[j], terms) for i, j in way)
    return pairs - sum(gap_price(terms, pair, later) for pair, later in zip(way, way[1:]))


def open_pairs(first, second, terms, taken=()):
    """The open pairs with their worths, by rising i, then j."""
    pairs = {}
    for i, x in enumerate(first):
        for j, y in enumerate(second):
            worth = standing_worth(x, y, terms)
            if worth is not None and (i, j) not in taken:
                pairs[(i, j)] = worth
    return pairs


def all_ways(first, second, terms, taken=()):
    """Every way over open pairs, as a tuple of pairs, with its worth."""
    pairs = open_pairs(first, second, terms, taken)
    ways = {}
    ended = {}
    for later in pairs:
        ended[later] = [(later,)]
        for pair in ended:
            if lies_before(pair, later):
                ended[later].extend(way + (later,) for way in ended[pair])
        for way in ended[later]:
            ways[way] = worth_by_sum(first, second, terms, way)
    return ways


def join_all(sets):
    """Sets that share a member, put together until no two of them share one."""
    joined = []
    for members in sets:
        apart = [other for other in joined if not other & members]
        joined = apart + [set(members).union(*[other for other in joined if other & members])]
    return joined


def rounds_by_ways(first, second, terms):
    """Point 14, all ways gone through one by one: for each round its worth, its findings and its ways."""
    taken = set()
    rounds = []
    while True:
        ways = all_ways(first, second, terms, taken)
        worth = max(ways.values(), default=None)
        if worth is None or worth < terms.least:
            return rounds
        groups = join_all(set(way) for way in ways if ways[way] == worth)
        rounds.append((worth, sorted(sorted(group) for group in groups), ways))
        taken = taken.union(*groups)


def ending_by_pairs(pairs, terms):
    """For each open pair the best that ends there, each pair put behind each other one."""
    ending = {}
    for later, worth in sorted(pairs.items()):
        gains = [ending[pair] - gap_price(terms, pair, later) for pair in ending if lies_before(pair, later)]
        ending[later] = worth + max(gains + [0])
    return ending


def starting_by_pairs(pairs, terms):
    starting = {}
    for pair, worth in sorted(pairs.items(), reverse=True):
        gains = [starting[later] - gap_price(terms, pair, later) for later in starting if lies_before(pair, later)]
        starting[pair] = worth + max(gains + [0])
    return starting


def rounds_by_pairs(first, second, terms):
    """Point 14 for books too long for all their ways: for each round its worth, its findings and its endings."""
    pairs = open_pairs(first, second, terms)
    rounds = []
    while True:
        ending = ending_by_pairs(pairs, terms)
        starting = starting_by_pairs(pairs, terms)
        worth = max(ending.values(), default=None)
        if worth is None or worth < terms.least:
            return rounds
        best = [pair for pair in pairs if ending[pair] + starting[pair] - pairs[pair] == worth]
        links = [{pair} for pair in best]
        for pair in best:
            links.extend({pair, later} for later in best if lies_before(pair, later)
                         and ending[pair] - gap_price(terms, pair, later) + starting[later] == worth)
        rounds.append((worth, sorted(sorted(group) for group in join_all(links)), ending))
        pairs = {pair: pairs[pair] for pair in pairs if pair not in best}
