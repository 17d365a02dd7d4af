"""Points 1, 2 and 13: the tables of best worths."""

import itertools
import unittest

from quotefind.tables import best_ending, best_starting, best_through
from quotefind.terms import Terms
from tests.helper import (
    SMALL_TERMS, Numbers, all_ways, ending_by_pairs, open_pairs, small_books, starting_by_pairs, word_of,
)

FAR = 10 ** 60
TABLES = (best_ending, best_starting, best_through)


def table_of(first, second, worths):
    """A table of a dict from pair to worth, None for all other pairs."""
    return [[worths.get((i, j)) for j in range(len(second))] for i in range(len(first))]


def tables_by_ways(first, second, terms, taken):
    """The three tables, all ways over open pairs gone through one by one."""
    ending, starting, through = {}, {}, {}
    for way, worth in all_ways(first, second, terms, taken).items():
        ending[way[-1]] = max(worth, ending.get(way[-1], worth))
        starting[way[0]] = max(worth, starting.get(way[0], worth))
        for pair in way:
            through[pair] = max(worth, through.get(pair, worth))
    return [table_of(first, second, worths) for worths in (ending, starting, through)]


def tables_by_pairs(first, second, terms, taken):
    """The three tables for books too long for all their ways."""
    pairs = open_pairs(first, second, terms, taken)
    ending = ending_by_pairs(pairs, terms)
    starting = starting_by_pairs(pairs, terms)
    through = {pair: ending[pair] + starting[pair] - pairs[pair] for pair in pairs}
    return [table_of(first, second, worths) for worths in (ending, starting, through)]


def tables_told(*args, **kwargs):
    return [table(*args, **kwargs) for table in TABLES]


class TablesTest(unittest.TestCase):

    def check(self, first, second, terms, taken, due):
        self.assertEqual(tables_told(first, second, terms, taken), due, (first, second, taken))

    def check_by_ways(self, first, second, terms, taken):
        self.check(first, second, terms, taken, tables_by_ways(first, second, terms, taken))


class WithoutTakenPairs(TablesTest):

    def test_a_small_one_by_hand(self):
        terms = Terms(10, 2, 3, 1, near=[("thou", "you", 4)])
        first = ["thou", "art", "he"]
        second = ["you", "he"]
        self.check(first, second, terms, None, [
            [[6, None], [None, None], [None, 14]],
            [[14, None], [None, None], [None, 10]],
            [[14, None], [None, None], [None, 14]],
        ])

    def test_a_gap_that_costs_more_than_it_brings(self):
        terms = Terms(10, 11, 11, 1)
        first = ["a", "x", "b"]
        second = ["a", "b"]
        alone = [[10, None], [None, None], [None, 10]]
        self.check(first, second, terms, None, [alone, alone, [[10, None], [None, None], [None, 10]]])

    def test_a_gap_that_costs_just_what_it_brings(self):
        terms = Terms(10, 10, 11, 1)
        self.check(["a", "x", "b"], ["a", "b"], terms, None, [[[10, None], [None, None], [None, 10]]] * 3)

    def test_pairs_worth_nought_or_below_stand_for_themselves(self):
        terms = Terms(10, 1, 1, 1, near=[("n", "m", 10), ("o", "p", 15)])
        self.check(["n"], ["m"], terms, None, [[[0]]] * 3)
        self.check(["o"], ["p"], terms, None, [[[-5]]] * 3)
        self.check(["n", "o"], ["m", "p"], terms, None, [
            [[0, None], [None, -5]],
            [[0, None], [None, -5]],
            [[0, None], [None, -5]],
        ])
        self.check(["o", "a", "n"], ["p", "a", "m"], terms, None, [
            [[-5, None, None], [None, 10, None], [None, None, 10]],
            [[5, None, None], [None, 10, None], [None, None, 0]],
            [[5, None, None], [None, 10, None], [None, None, 10]],
        ])

    def test_every_two_small_books(self):
        for terms in SMALL_TERMS:
            for first, second in itertools.product(small_books("ab", 3), repeat=2):
                due = tables_by_ways(first, second, terms, ())
                self.check(first, second, terms, None, due)
                self.check(first, second, terms, [], due)
                self.assertEqual(tables_told(first, second, terms), due)

    def test_longer_books(self):
        numbers = Numbers(1)
        for count in range(200):
            first = numbers.book("abc", 4 + numbers.below(3))
            second = numbers.book("abc", 4 + numbers.below(3))
            self.check_by_ways(first, second, numbers.one_of(SMALL_TERMS), [])

    def test_empty_books(self):
        terms = SMALL_TERMS[0]
        for taken in (None, [], [(0, 0)]):
            self.check([], [], terms, taken, [[]] * 3)
            self.check([], ["a", "b"], terms, taken, [[]] * 3)
            self.check(["a", "b"], [], terms, taken, [[[], []]] * 3)

    def test_books_without_a_pair_that_may_stand(self):
        self.check(["a", "b"], ["c", "d", "e"], SMALL_TERMS[0], None, [[[None] * 3] * 2] * 3)


class WithTakenPairs(TablesTest):

    def test_each_choice_of_taken_pairs(self):
        terms = Terms(4, 1, 2, 1, near=[("a", "b", 3)])
        first = ["a", "b", "a"]
        second = ["a", "b", "b"]
        pairs = sorted(open_pairs(first, second, terms))
        for count in range(len(pairs) + 1):
            for taken in itertools.combinations(pairs, count):
                self.check_by_ways(first, second, terms, list(taken))

    def test_small_and_longer_books_with_some_taken(self):
        numbers = Numbers(2)
        for count in range(300):
            first = numbers.book("abc", 2 + numbers.below(5))
            second = numbers.book("abc", 2 + numbers.below(5))
            places = list(itertools.product(range(len(first)), range(len(second))))
            taken = [numbers.one_of(places) for drawn in range(numbers.below(8))]
            self.check_by_ways(first, second, numbers.one_of(SMALL_TERMS), taken)

    def test_words_of_taken_pairs_are_left_out_and_put_in_at_the_same_prices(self):
        words = ["a", "b", "c"]
        self.check(words, words, Terms(10, 2, 3, 1), [(1, 1)], [
            [[10, None, None], [None, None, None], [None, None, 15]],
            [[15, None, None], [None, None, None], [None, None, 10]],
            [[15, None, None], [None, None, None], [None, None, 15]],
        ])

    def test_all_pairs_taken(self):
        self.check(["a", "a"], ["a"], Terms(10, 2, 3, 1), [(0, 0), (1, 0)], [[[None], [None]]] * 3)

    def test_what_else_stands_among_the_taken_ones_changes_nothing(self):
        terms = Terms(4, 1, 2, 1, near=[("a", "b", 3)])
        first = ["a", "b", "a"]
        second = ["a", "b"]
        others = [(1, 0), (-1, -1), (-1, 1), (1, -1), (-3, -2), (3, 0), (0, 2), (3, 2), (40, 40), (-FAR, FAR), (FAR, 0)]
        for taken in ([], [(0, 0)], [(1, 1), (2, 1)]):
            due = tables_by_ways(first, second, terms, taken)
            self.check(first, second, terms, others + taken, due)
            self.check(first, second, terms, taken + others, due)
            self.check(first, second, terms, taken + taken + others + others, due)
            for other in others:
                self.check(first, second, terms, taken + [other], due)

    def test_places_below_nought_do_not_count_from_the_end(self):
        self.check(["a"], ["a"], Terms(10, 2, 3, 1), [(-1, -1), (-1, 0), (0, -1)], [[[10]]] * 3)

    def test_two_hundred_taken_pairs(self):
        words = ["a"] * 40
        taken = [(i, j) for i in range(5) for j in range(40)]
        terms = Terms(10, 2, 3, 1)
        self.check(words, words, terms, taken, tables_by_pairs(words, words, terms, set(taken)))


class LongBooks(TablesTest):

    def test_forty_times_one_word(self):
        words = ["a"] * 40
        for terms in (Terms(10, 0, 0, 1), Terms(10, 2, 3, 1), Terms(10, 999999, 999999, 1)):
            ending = [[10 * (min(i, j) + 1) for j in range(40)] for i in range(40)]
            starting = [[10 * (40 - max(i, j)) for j in range(40)] for i in range(40)]
            through = [[10 * (40 - abs(i - j)) for j in range(40)] for i in range(40)]
            self.check(words, words, terms, None, [ending, starting, through])

    def test_forty_different_words(self):
        words = [word_of(number) for number in range(40)]
        terms = Terms(999999, 999999, 999999, 1)
        told = tables_told(words, words, terms)
        for i, j in itertools.product(range(40), repeat=2):
            due = (999999 * (i + 1), 999999 * (40 - i), 999999 * 40) if i == j else (None, None, None)
            self.assertEqual((told[0][i][j], told[1][i][j], told[2][i][j]), due)

    def test_forty_of_few_words(self):
        numbers = Numbers(3)
        for letters in ("abc", "abcdef", "abcdefghijkl"):
            for terms in SMALL_TERMS:
                first = numbers.book(letters, 40)
                second = numbers.book(letters, 39 + numbers.below(2))
                taken = [(numbers.below(40), numbers.below(40)) for drawn in range(numbers.below(100))]
                self.check(first, second, terms, taken, tables_by_pairs(first, second, terms, set(taken)))

    def test_books_beyond_the_bound_are_not_refused(self):
        first = ["a"] * 45
        second = ["a"] * 61
        self.assertEqual(best_through(first, second, Terms(10, 2, 3, 1))[44][60], 450)
        self.assertEqual(best_ending(first, second, Terms(10, 2, 3, 1))[44][60], 450)
        self.assertEqual(best_starting(first, second, Terms(10, 2, 3, 1))[44][60], 10)


class NothingHandedInIsKeptOrChanged(TablesTest):

    def setUp(self):
        self.terms = Terms(10, 2, 3, 1, near=[("a", "b", 4)])

    def test_books_and_taken_pairs_stay_as_they_were(self):
        first = ["a", "x", "b"]
        second = ["b", "a"]
        taken = [(2, 0), (2, 0), (-1, 7)]
        tables_told(first, second, self.terms, taken)
        self.assertEqual((first, second, taken), (["a", "x", "b"], ["b", "a"], [(2, 0), (2, 0), (-1, 7)]))
        self.assertEqual(self.terms.near, [("a", "b", 4)])

    def test_what_is_told_is_made_anew(self):
        for table in TABLES:
            due = table(["a", "b"], ["a", "b"], self.terms)
            told = table(["a", "b"], ["a", "b"], self.terms)
            told[0][0] = 77
            told[1].append(5)
            told.append([])
            self.assertEqual(table(["a", "b"], ["a", "b"], self.terms), due)

    def test_rows_share_nothing(self):
        for table in TABLES:
            told = table(["x", "x", "x"], ["y", "y"], self.terms)
            told[0][0] = 77
            self.assertEqual(told[1:], [[None, None], [None, None]])
            told = table(["x", "x"], [], self.terms)
            told[0].append(77)
            self.assertEqual(told[1], [])

    def test_taken_pairs_are_not_kept(self):
        for table in TABLES:
            table(["a"], ["a"], self.terms, [(0, 0)])
            self.assertEqual(table(["a"], ["a"], self.terms), [[10]])

    def test_plain_lists(self):
        for table in TABLES:
            told = table(["a", "b"], ["a"], self.terms)
            self.assertIs(type(told), list)
            for row in told:
                self.assertIs(type(row), list)

    def test_the_arguments_bear_their_names(self):
        for table in TABLES:
            told = table(taken=[(0, 0)], terms=self.terms, second=["a"], first=["a"])
            self.assertEqual(told, [[None]])


if __name__ == "__main__":
    unittest.main()
