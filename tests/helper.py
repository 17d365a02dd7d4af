"""What several tests share."""

import itertools
import types

from quotefind.errors import (
    BadBook, BadName, BadSearch, BadWord, BadYear, Full, HasLeft, NameTaken, NoBook, NoFinding, TooMany,
)
from quotefind.terms import Terms

# Every sign that a text may have: from the blank to ~, without the sign of per cent.
SIGNS = [chr(code) for code in range(ord(" "), ord("~") + 1) if chr(code) != "%"]

LETTERS = "abcdefghijklmnopqrstuvwxyz"


def refusal_of(call, *args, **kwargs):
    """The very class of the error that a call raises, or None."""
    try:
        call(*args, **kwargs)
    except Exception as error:
        return type(error)
    return None


def words_from(low, high):
    """The words of these numbers, both with them."""
    return [word_of(number) for number in range(low, high + 1)]


def word_of(number):
    """A word of three letters, another one for each number below 17576."""
    return LETTERS[number // 676] + LETTERS[number // 26 % 26] + LETTERS[number % 26]


def near_forms(count):
    """So many near forms, no two with the same two words."""
    return [(word_of(number), word_of(number + 1), number) for number in range(count)]


class Numbers:
    """A row of numbers that looks like chance and is the same at each run."""

    def __init__(self, seed):
        self.state = seed

    def below(self, bound):
        self.state = (self.state * 6364136223846793005 + 1442695040888963407) % 2 ** 64
        return (self.state >> 33) % bound

    def one_of(self, members):
        return members[self.below(len(members))]

    def book(self, letters, length):
        return [self.one_of(letters) for place in range(length)]


def small_books(letters, most):
    """Every book of up to so many words, each word one of the letters."""
    return [list(words) for length in range(most + 1) for words in itertools.product(letters, repeat=length)]


# Terms for small books of the words a, b and c: with gaps of every price, with pairs worth less than
# the others, worth nought and worth less than nought.
SMALL_TERMS = [
    Terms(1, 0, 0, 1),
    Terms(3, 1, 1, 1),
    Terms(3, 1, 2, 4),
    Terms(2, 3, 0, 2),
    Terms(2, 0, 3, 3),
    Terms(5, 999999, 999999, 5),
    Terms(4, 1, 2, 4, near=[("a", "b", 4)]),
    Terms(4, 2, 1, 3, near=[("a", "b", 6)]),
    Terms(2, 0, 0, 2, near=[("b", "a", 2), ("a", "c", 2)]),
    Terms(2, 0, 0, 4, near=[("a", "b", 3), ("c", "b", 1)]),
    Terms(6, 4, 4, 6, near=[("a", "b", 7), ("b", "a", 0)]),
    Terms(3, 3, 3, 3, near=[("a", "b", 1), ("b", "a", 2), ("b", "c", 3)]),
    Terms(4, 2, 2, 4, near=[("a", "c", 4), ("c", "a", 4), ("b", "c", 8)]),
]


def entry_fields(entry):
    return {
        "number": entry.number, "older": entry.older, "newer": entry.newer, "worth": entry.worth,
        "way": list(entry.way), "row": list(entry.row), "pairs": list(entry.pairs), "left": entry.left,
    }


def state_of(library, searches):
    """All that a library tells."""
    names = library.books()
    return {
        "books": names,
        "words": [library.words_in(name) for name in names],
        "found": library.found(),
        "entries": [entry_fields(library.entry(number)) for number in range(1, library.found() + 1)],
        "listed": library.listed(),
        "between": [library.between(name, other) for name in names for other in names],
        "follow": [library.follow(number) for number in library.listed()],
        "search": [library.search(told, within) for told, within in searches],
    }


# What follows is made straight of the document's words, without the program's own ways and tables.

def standing_worth(x, y, terms):
    """Point 9."""
    if x == y:
        return terms.same
    for near_x, near_y, price in terms.near:
        if (near_x, near_y) == (x, y):
            return terms.same - price
    return None


def gap_price(terms, pair, later):
    return terms.out * (later[0] - pair[0] - 1) + terms.into * (later[1] - pair[1] - 1)


def lies_before(pair, later):
    return pair[0] < later[0] and pair[1] < later[1]


def worth_by_sum(first, second, terms, way):
    """Point 11."""
    pairs = sum(standing_worth(first[i], second[j], terms) for i, j in way)
    return pairs - sum(gap_price(terms, pair, later) for pair, later in zip(way, way[1:]))


def open_pairs(first, second, terms, taken=()):
    """The open pairs with their worths, by rising i, then j."""
    pairs = {}
    for i, x in enumerate(first):
        for j, y in enumerate(second):
            worth = standing_worth(x, y, terms)
            if worth is not None and (i, j) not in taken:
                pairs[(i, j)] = worth
    return pairs


def all_ways(first, second, terms, taken=()):
    """Every way over open pairs, as a tuple of pairs, with its worth."""
    pairs = open_pairs(first, second, terms, taken)
    ways = {}
    ended = {}
    for later in pairs:
        ended[later] = [(later,)]
        for pair in ended:
            if lies_before(pair, later):
                ended[later].extend(way + (later,) for way in ended[pair])
        for way in ended[later]:
            ways[way] = worth_by_sum(first, second, terms, way)
    return ways


def join_all(sets):
    """Sets that share a member, put together until no two of them share one."""
    joined = []
    for members in sets:
        apart = [other for other in joined if not other & members]
        joined = apart + [set(members).union(*[other for other in joined if other & members])]
    return joined


def rounds_by_ways(first, second, terms):
    """Point 14, all ways gone through one by one: for each round its worth, its findings and its ways."""
    taken = set()
    rounds = []
    while True:
        ways = all_ways(first, second, terms, taken)
        worth = max(ways.values(), default=None)
        if worth is None or worth < terms.least:
            return rounds
        groups = join_all(set(way) for way in ways if ways[way] == worth)
        rounds.append((worth, sorted(sorted(group) for group in groups), ways))
        taken = taken.union(*groups)


def ending_by_pairs(pairs, terms):
    """For each open pair the best that ends there, each pair put behind each other one."""
    ending = {}
    for later, worth in sorted(pairs.items()):
        gains = [ending[pair] - gap_price(terms, pair, later) for pair in ending if lies_before(pair, later)]
        ending[later] = worth + max(gains + [0])
    return ending


def starting_by_pairs(pairs, terms):
    starting = {}
    for pair, worth in sorted(pairs.items(), reverse=True):
        gains = [starting[later] - gap_price(terms, pair, later) for later in starting if lies_before(pair, later)]
        starting[pair] = worth + max(gains + [0])
    return starting


def rounds_by_pairs(first, second, terms):
    """Point 14 for books too long for all their ways: for each round its worth, its findings and its endings."""
    pairs = open_pairs(first, second, terms)
    rounds = []
    while True:
        ending = ending_by_pairs(pairs, terms)
        starting = starting_by_pairs(pairs, terms)
        worth = max(ending.values(), default=None)
        if worth is None or worth < terms.least:
            return rounds
        best = [pair for pair in pairs if ending[pair] + starting[pair] - pairs[pair] == worth]
        links = [{pair} for pair in best]
        for pair in best:
            links.extend({pair, later} for later in best if lies_before(pair, later)
                         and ending[pair] - gap_price(terms, pair, later) + starting[later] == worth)
        rounds.append((worth, sorted(sorted(group) for group in join_all(links)), ending))
        pairs = {pair: pairs[pair] for pair in pairs if pair not in best}


def is_answered(told, word, terms):
    """Point 25."""
    return told == word or any({x, y} == {told, word} for x, y, price in terms.near)


def holds(words, low, high, told, terms):
    places = range(low, high + 1)
    return all(any(is_answered(text, words[place], terms) for place in places) for text in told)


def stretches_one_by_one(words, told, within, terms):
    """Point 26, all stretches gone through one by one."""
    found = []
    for low in range(len(words)):
        for high in range(low, min(low + within, len(words))):
            if holds(words, low, high, told, terms):
                shorter = holds(words, low + 1, high, told, terms) or holds(words, low, high - 1, told, terms)
                if not shorter:
                    found.append((low, high))
    return found


def is_plain_word(text):
    """Point 4."""
    return 1 <= len(text) <= 12 and all(sign in LETTERS for sign in text)


def places_from(places):
    return set(range(min(places), max(places) + 1))


class Account:
    """A library that is kept by the document's points alone, without the program's own library."""

    def __init__(self, terms):
        self.terms = terms
        self.there = {}
        self.entries = []

    def age(self, name):
        """Point 19."""
        return (self.there[name][0], name)

    def books(self):
        return sorted(self.there, key=self.age)

    def refuse_coming(self, name, year, words):
        """Point 18, but for the last refusal."""
        faults = [
            (BadName, not is_plain_word(name)),
            (BadYear, not 0 <= year <= 9999),
            (BadBook, len(words) > 40),
            (BadWord, not all(is_plain_word(word) for word in words)),
            (NameTaken, name in self.there),
            (Full, len(self.there) == 12),
        ]
        for refusal, is_due in faults:
            if is_due:
                raise refusal()

    def come(self, name, year, words):
        """Points 18 and 20."""
        self.refuse_coming(name, year, words)
        made = []
        others = self.books()
        there = dict(self.there)
        there[name] = (year, list(words))
        for other in others:
            older, newer = sorted([name, other], key=lambda one: (there[one][0], one))
            rounds = rounds_by_pairs(there[older][1], there[newer][1], self.terms)
            findings = [(worth, pairs, ending) for worth, groups, ending in rounds for pairs in groups]
            if len(findings) > 20:
                raise TooMany()
            for worth, pairs, ending in findings:
                made.append(types.SimpleNamespace(
                    number=len(self.entries) + len(made) + 1, older=older, newer=newer, worth=worth, pairs=pairs,
                    ending=ending, words=(there[older][1], there[newer][1]), left=False))
        self.there = there
        self.entries.extend(made)
        return [entry.number for entry in made]

    def refuse_without(self, name):
        if name not in self.there:
            raise NoBook()

    def leave(self, name):
        """Point 21."""
        self.refuse_without(name)
        marked = [entry for entry in self.entries if not entry.left and name in (entry.older, entry.newer)]
        for entry in marked:
            entry.left = True
        self.there.pop(name)
        return [entry.number for entry in marked]

    def entry(self, number):
        if not 1 <= number <= len(self.entries):
            raise NoFinding()
        return self.entries[number - 1]

    def listed(self):
        """Point 22."""
        standing = [entry for entry in self.entries if not entry.left]
        return [entry.number for entry in sorted(standing, key=lambda entry: (-entry.worth, entry.number))]

    def between(self, name, other):
        self.refuse_without(name)
        self.refuse_without(other)
        both = [number for number in self.listed()
                if {self.entry(number).older, self.entry(number).newer} == {name, other}]
        return both

    def goes_on(self, g, f):
        """Point 23: whether the entry g goes on from the entry f."""
        if f.left or g.left or g.newer != f.older:
            return False
        length = places_from([i for i, j in f.pairs])
        shared = length & places_from([j for i, j in g.pairs])
        return 100 * len(shared) >= self.terms.part * len(length)

    def chains(self, number):
        """Every list of entries that begins with that number and in which each goes on from the one before."""
        last = self.entry(number)
        found = [[last]]
        for entry in self.entries:
            if self.goes_on(entry, last):
                found.extend([last] + chain for chain in self.chains(entry.number))
        return found

    def is_chain(self, number, told):
        """Point 24: whether what `follow` told can stand."""
        if self.entry(number).left:
            raise HasLeft()
        chains = self.chains(number)
        oldest = min(self.age(chain[-1].older) for chain in chains)
        ends = {tuple(entry.number for entry in chain): self.age(chain[-1].older) for chain in chains}
        return ends.get(tuple(told)) == oldest

    def is_way(self, number, way):
        """Point 15: whether the way that an entry tells can stand."""
        entry = self.entry(number)
        rises = all(lies_before(pair, later) for pair, later in zip(way, way[1:]))
        inside = len(way) > 0 and set(way) <= set(entry.pairs)
        return rises and inside and worth_by_sum(*entry.words, self.terms, way) == entry.worth

    def search(self, told, within):
        """Point 27."""
        if not 1 <= len(told) <= 6 or len(set(told)) < len(told) or not 1 <= within <= 40:
            raise BadSearch()
        if not all(is_plain_word(text) for text in told):
            raise BadWord()
        return [(name, low, high) for name in self.books()
                for low, high in stretches_one_by_one(self.there[name][1], told, within, self.terms)]
