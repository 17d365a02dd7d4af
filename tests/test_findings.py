"""Points 1 to 3 and 14 to 17: findings, and what follows for them from points 10 and 11."""

import itertools
import unittest

from quotefind.errors import QuoteError, TooMany
from quotefind.findings import FINDINGS_MOST, Finding, compare
from quotefind.tables import best_ending
from quotefind.terms import Terms
from quotefind.ways import way_row, way_worth
from tests.helper import (
    SMALL_TERMS, Numbers, all_ways, refusal_of, rounds_by_pairs, rounds_by_ways, small_books, word_of,
)

# So dear that no way goes over a gap.
DEAR = 999999


def short(findings):
    """Worth and pairs of each finding, which are promised whole."""
    return [(finding.worth, finding.pairs) for finding in findings]


def fields_of(finding):
    return (finding.worth, finding.way, finding.row, finding.pairs)


def short_of_rounds(rounds):
    return [(worth, pairs) for worth, groups, known in rounds for pairs in groups]


def ending_by_ways(ways, pair):
    return max(worth for way, worth in ways.items() if way[-1] == pair)


def numbers_in(table):
    return [[number for number in row if number is not None] or [0] for row in table]


def some_small_cases():
    """Books of up to six words with terms for them, the same ones at each run."""
    numbers = Numbers(4)
    for count in range(400):
        letters = numbers.one_of(["a", "ab", "abc", "abcd"])
        first = numbers.book(letters, 2 + numbers.below(5))
        second = numbers.book(letters, 2 + numbers.below(4))
        yield first, second, numbers.one_of(SMALL_TERMS)


class FindingsTest(unittest.TestCase):

    def check_way(self, first, second, terms, finding):
        self.assertEqual(way_worth(first, second, terms, finding.way), finding.worth)
        self.assertEqual(way_row(first, second, terms, finding.way), finding.row)
        self.assertLessEqual(set(finding.way), set(finding.pairs))

    def check_by_ways(self, first, second, terms):
        """Points 14, 15 and 17 against all ways, one by one."""
        told = compare(first, second, terms)
        rounds = rounds_by_ways(first, second, terms)
        self.assertEqual(short(told), short_of_rounds(rounds), (first, second))
        round_ways = [ways for worth, groups, ways in rounds for group in groups]
        for finding, ways in zip(told, round_ways):
            self.assertEqual(ways[tuple(finding.way)], finding.worth)
            self.assertEqual(finding.row, [ending_by_ways(ways, pair) for pair in finding.way])
            self.check_way(first, second, terms, finding)
        return told

    def check_by_pairs(self, first, second, terms):
        """The same for books too long for all their ways."""
        rounds = rounds_by_pairs(first, second, terms)
        if len(short_of_rounds(rounds)) > 20:
            self.assertIs(refusal_of(compare, first, second, terms), TooMany)
            return 21
        told = compare(first, second, terms)
        self.assertEqual(short(told), short_of_rounds(rounds))
        endings = [ending for worth, groups, ending in rounds for group in groups]
        for finding, ending in zip(told, endings):
            self.assertEqual(finding.row, [ending[pair] for pair in finding.way])
            self.check_way(first, second, terms, finding)
        return len(told)

    def check_what_follows(self, first, second, terms):
        """Point 16."""
        told = compare(first, second, terms)
        pairs = [pair for finding in told for pair in finding.pairs]
        self.assertEqual(len(pairs), len(set(pairs)))
        worth_at = {pair: finding.worth for finding in told for pair in finding.pairs}
        for way, worth in all_ways(first, second, terms).items():
            met = max([worth_at[pair] for pair in way if pair in worth_at], default=None)
            if worth >= terms.least:
                self.assertIsNotNone(met)
                self.assertGreaterEqual(met, worth)
            for finding in told:
                if set(way) < set(finding.way):
                    self.assertLessEqual(worth, finding.worth)
                if set(way) > set(finding.way):
                    self.assertTrue(worth <= finding.worth or met > finding.worth)


class AgainstAllWays(FindingsTest):

    def test_every_two_small_books(self):
        for terms in SMALL_TERMS:
            for first, second in itertools.product(small_books("ab", 3), repeat=2):
                self.check_by_ways(first, second, terms)

    def test_every_two_small_books_of_three_words(self):
        for terms in SMALL_TERMS[-5:]:
            for first, second in itertools.product(small_books("abc", 3), repeat=2):
                self.check_by_ways(first, second, terms)

    def test_longer_books(self):
        most = 0
        for first, second, terms in some_small_cases():
            most = max(most, len(self.check_by_ways(first, second, terms)))
        self.assertGreater(most, 4)

    def test_what_follows(self):
        for terms in SMALL_TERMS:
            for first, second in itertools.product(small_books("ab", 2), repeat=2):
                self.check_what_follows(first, second, terms)
        for first, second, terms in some_small_cases():
            self.check_what_follows(first, second, terms)


class Rounds(FindingsTest):

    def test_one_passage(self):
        terms = Terms(10, 2, 3, 20, near=[("thou", "you", 4)])
        first = ["lo", "thou", "art", "the", "man", "yea"]
        second = ["so", "you", "the", "man"]
        told = self.check_by_ways(first, second, terms)
        self.assertEqual([fields_of(finding) for finding in told],
                         [(24, [(1, 1), (3, 2), (4, 3)], [6, 14, 24], [(1, 1), (3, 2), (4, 3)])])

    def test_several_findings_in_one_round(self):
        told = self.check_by_ways(["a", "b", "c"], ["c", "b", "a"], Terms(10, 2, 3, 10))
        self.assertEqual(short(told), [(10, [(0, 2)]), (10, [(1, 1)]), (10, [(2, 0)])])

    def test_several_rounds(self):
        terms = Terms(10, DEAR, DEAR, 10)
        told = self.check_by_ways(["a", "b", "c", "d", "e", "f"], ["f", "d", "e", "a", "b", "c"], terms)
        self.assertEqual(short(told), [
            (30, [(0, 3), (1, 4), (2, 5)]), (20, [(3, 1), (4, 2)]), (10, [(5, 0)]),
        ])

    def test_a_later_round_goes_over_taken_pairs_at_their_price(self):
        # The way from a to b leaves out k, l, m, r and s and puts in m, all of them words of taken pairs.
        first = ["a", "k", "l", "m", "r", "s", "b"]
        second = ["k", "l", "a", "m", "b", "r", "s"]
        told = self.check_by_ways(first, second, Terms(10, 1, 2, 1))
        self.assertEqual(short(told), [
            (46, [(1, 0), (2, 1), (3, 3), (4, 5), (5, 6)]), (13, [(0, 2), (6, 4)]),
        ])

    def test_a_later_round_has_only_open_pairs(self):
        told = self.check_by_ways(["a", "b", "a"], ["a", "a"], Terms(10, 1, 1, 1))
        self.assertEqual(short(told), [(19, [(0, 0), (2, 1)]), (10, [(0, 1)]), (10, [(2, 0)])])
        told = self.check_by_ways(["a"] * 3, ["a"] * 3, Terms(10, 1, 1, 1))
        self.assertEqual(short(told), [
            (30, [(0, 0), (1, 1), (2, 2)]), (20, [(0, 1), (1, 2)]), (20, [(1, 0), (2, 1)]),
            (10, [(0, 2)]), (10, [(2, 0)]),
        ])

    def test_best_ways_that_share_pairs(self):
        told = self.check_by_ways(["a", "b", "a"], ["a", "b"], Terms(10, 0, 0, 20))
        self.assertEqual(short(told), [(20, [(0, 0), (1, 1)])])
        told = self.check_by_ways(["a", "b"], ["a", "b", "b"], Terms(10, 1, 0, 20))
        self.assertEqual(short(told), [(20, [(0, 0), (1, 1), (1, 2)])])

    def test_best_pairs_that_hang_together_only_by_a_third_one(self):
        told = self.check_by_ways(["a", "b"], ["a", "a", "b"], Terms(10, 0, 0, 20))
        self.assertEqual(short(told), [(20, [(0, 0), (0, 1), (1, 2)])])

    def test_best_pairs_that_hang_together_by_a_row_of_others(self):
        # (1, 1) with (0, 0), (0, 0) with (1, 3), (1, 3) with (0, 2).
        told = self.check_by_ways(["a", "b"], ["a", "b", "a", "b"], Terms(10, 0, 0, 20))
        self.assertEqual(short(told), [(20, [(0, 0), (0, 2), (1, 1), (1, 3)])])

    def test_best_ways_without_a_common_pair_stay_apart(self):
        told = self.check_by_ways(["a", "b", "c", "d"], ["c", "d", "a", "b"], Terms(10, DEAR, DEAR, 20))
        self.assertEqual(short(told), [(20, [(0, 2), (1, 3)]), (20, [(2, 0), (3, 1)])])
        # Side by side, the pairs of one way straight beside those of the other.
        told = self.check_by_ways(["a", "a"], ["a", "a", "a"], Terms(10, 1, 1, 20))
        self.assertEqual(short(told), [(20, [(0, 0), (1, 1)]), (20, [(0, 1), (1, 2)])])

    def test_best_ways_over_one_crossing_hang_together(self):
        # From (0, 1) and (1, 0) to (2, 3) and (3, 2), each with each, at one and the same price.
        terms = Terms(10, 1, 1, 18)
        first = ["a", "b", "c", "d"]
        second = ["b", "a", "d", "c"]
        told = self.check_by_ways(first, second, terms)
        self.assertEqual(short(told), [(18, [(0, 1), (1, 0), (2, 3), (3, 2)])])

    def test_equal_worths_in_different_findings_of_one_round_and_another_round_behind(self):
        first = ["a", "b", "x", "c", "d", "y"]
        second = ["y", "c", "d", "x", "a", "b"]
        told = self.check_by_ways(first, second, Terms(10, DEAR, DEAR, 10))
        self.assertEqual(short(told), [
            (20, [(0, 4), (1, 5)]), (20, [(3, 1), (4, 2)]), (10, [(2, 3)]), (10, [(5, 0)]),
        ])

    def test_pairs_worth_nought_inside_of_a_best_way(self):
        terms = Terms(10, 0, 0, 20, near=[("n", "m", 10)])
        told = self.check_by_ways(["a", "n", "b"], ["a", "m", "b"], terms)
        self.assertEqual(short(told), [(20, [(0, 0), (1, 1), (2, 2)])])

    def test_pairs_worth_nought_at_the_ends_of_a_best_way(self):
        terms = Terms(10, 3, 3, 10, near=[("n", "m", 10)])
        told = self.check_by_ways(["n", "a", "n"], ["m", "a", "m"], terms)
        self.assertEqual(short(told), [(10, [(0, 0), (1, 1), (2, 2)])])
        told = self.check_by_ways(["n", "x", "a"], ["m", "a"], terms)
        self.assertEqual(short(told), [(10, [(2, 1)])])

    def test_a_start_and_an_end_that_bring_just_nought(self):
        # (0, 0) brings 3, the gap behind it takes 3: the best way is worth as much without it.
        terms = Terms(10, 3, 0, 10, near=[("n", "m", 7)])
        told = self.check_by_ways(["n", "x", "a", "x", "n"], ["m", "a", "m"], terms)
        self.assertEqual(short(told), [(10, [(0, 0), (2, 1), (4, 2)])])

    def test_two_best_ways_joined_by_a_gap_that_takes_just_what_it_brings(self):
        told = self.check_by_ways(["a", "x", "b"], ["a", "b"], Terms(10, 10, 0, 10))
        self.assertEqual(short(told), [(10, [(0, 0), (2, 1)])])
        told = self.check_by_ways(["a", "x", "b"], ["a", "b"], Terms(10, 11, 0, 10))
        self.assertEqual(short(told), [(10, [(0, 0)]), (10, [(2, 1)])])
        told = self.check_by_ways(["a", "x", "b"], ["a", "b"], Terms(10, 9, 0, 10))
        self.assertEqual(short(told), [(11, [(0, 0), (2, 1)])])

    def test_a_pair_worth_less_than_nought_that_is_cheaper_than_the_gap(self):
        terms = Terms(10, 5, 5, 10, near=[("n", "m", 13)])
        told = self.check_by_ways(["a", "n", "b"], ["a", "m", "b"], terms)
        self.assertEqual(short(told), [(17, [(0, 0), (1, 1), (2, 2)])])

    def test_just_least_and_one_less(self):
        for least, count in ((19, 1), (20, 1), (21, 0)):
            told = self.check_by_ways(["a", "b"], ["a", "b"], Terms(10, 2, 3, least))
            self.assertEqual(len(told), count)
        for least, count in ((9, 2), (10, 2), (11, 1), (20, 1), (21, 0)):
            told = self.check_by_ways(["a", "b", "c"], ["c", "a", "b"], Terms(10, 2, 3, least))
            self.assertEqual(len(told), count)

    def test_no_round_behind_one_that_makes_no_finding(self):
        self.assertEqual(compare(["a", "b"], ["b", "a"], Terms(10, 2, 3, 11)), [])

    def test_no_pair_that_may_stand(self):
        terms = Terms(10, 2, 3, 1, near=[("n", "m", 4)])
        for first, second in (([], []), ([], ["a"]), (["a"], []), (["a", "b"], ["c"]), (["m"], ["n"])):
            self.assertEqual(compare(first, second, terms), [])

    def test_only_pairs_worth_nought_or_below(self):
        terms = Terms(10, 0, 0, 1, near=[("n", "m", 10), ("o", "p", 11)])
        self.assertEqual(compare(["n", "o", "n"], ["m", "p", "m"], terms), [])


class Fields(FindingsTest):

    def test_kinds(self):
        for first, second, terms in some_small_cases():
            for finding in compare(first, second, terms):
                self.assertIs(type(finding), Finding)
                self.assertIs(type(finding.worth), int)
                for told in (finding.way, finding.pairs, finding.row):
                    self.assertIs(type(told), list)
                for pair in finding.way + finding.pairs:
                    self.assertIs(type(pair), tuple)
                    self.assertEqual([type(place) for place in pair], [int, int])

    def test_pairs_by_rising_i_then_j(self):
        told = compare(["a"] * 3, ["a"] * 2, Terms(10, 0, 0, 20))
        self.assertEqual(told[0].pairs, [(0, 0), (1, 0), (1, 1), (2, 1)])
        for first, second, terms in some_small_cases():
            for finding in compare(first, second, terms):
                self.assertEqual(finding.pairs, sorted(set(finding.pairs)))

    def test_the_way_is_one_best_way_within_the_finding(self):
        told = compare(["a"] * 3, ["a"] * 2, Terms(10, 0, 0, 20))
        self.assertIn(told[0].way, [[(0, 0), (1, 1)], [(0, 0), (2, 1)], [(1, 0), (2, 1)]])
        self.assertEqual(told[0].row, [10, 20])

    def test_the_row_of_a_later_round_is_over_that_rounds_open_pairs(self):
        told = self.check_by_ways(["a"] * 4, ["a"] * 3, Terms(10, 2, 3, 1))
        self.assertGreater(len({finding.worth for finding in told}), 2)

    def test_the_row_goes_down_inside_of_a_way(self):
        terms = Terms(10, 5, 5, 10, near=[("n", "m", 13)])
        finding = compare(["a", "n", "b"], ["a", "m", "b"], terms)[0]
        self.assertEqual((finding.way, finding.row), ([(0, 0), (1, 1), (2, 2)], [10, 7, 17]))


class Order(FindingsTest):

    def test_by_falling_worth_then_by_the_first_pair(self):
        cases = list(some_small_cases())
        for first, second, terms in cases:
            told = compare(first, second, terms)
            keys = [(-finding.worth, finding.pairs[0]) for finding in told]
            self.assertEqual(keys, sorted(set(keys)))

    def test_the_lesser_i_first_whatever_j_is(self):
        words = [word_of(number) for number in range(10)]
        told = compare(words, words[::-1], Terms(10, 2, 3, 10))
        self.assertEqual(short(told), [(10, [(i, 9 - i)]) for i in range(10)])

    def test_the_lesser_j_first_for_the_same_i(self):
        told = compare(["a"], ["a"] * 12, Terms(10, 2, 3, 10))
        self.assertEqual(short(told), [(10, [(0, j)]) for j in range(12)])

    def test_places_are_ordered_as_numbers(self):
        told = compare(["a"] * 12, ["a"], Terms(10, 2, 3, 10))
        self.assertEqual(short(told), [(10, [(i, 0)]) for i in range(12)])

    def test_findings_of_several_pairs_by_the_first_of_all_their_pairs(self):
        # The second finding has the first pairs (0, 3) and (1, 3), the first one (0, 0).
        terms = Terms(10, 0, DEAR, 20)
        told = self.check_by_ways(["b", "b", "c", "a", "d"], ["a", "d", "x", "b", "c"], terms)
        self.assertEqual(short(told), [(20, [(0, 3), (1, 3), (2, 4)]), (20, [(3, 0), (4, 1)])])

    def test_greater_worth_goes_ahead_of_an_earlier_pair(self):
        told = compare(["a", "b", "c"], ["b", "c", "a"], Terms(10, 2, 3, 10))
        self.assertEqual(short(told), [(20, [(1, 0), (2, 1)]), (10, [(0, 2)])])


class HowMany(FindingsTest):

    def test_bound(self):
        self.assertEqual(FINDINGS_MOST, 20)

    def test_twenty_and_twenty_one_in_one_round(self):
        words = [word_of(number) for number in range(40)]
        terms = Terms(10, 2, 3, 10)
        for count in (19, 20):
            told = compare(words[:count], words[:count][::-1], terms)
            self.assertEqual(short(told), [(10, [(i, count - 1 - i)]) for i in range(count)])
        for count in (21, 22, 40):
            self.assertIs(refusal_of(compare, words[:count], words[:count][::-1], terms), TooMany)

    def test_twenty_and_more_over_many_rounds(self):
        # Without gaps each diagonal is a finding: two of each length here, from 30 words down.
        first = ["a"] * 30
        second = ["a"] * 31
        told = compare(first, second, Terms(10, DEAR, DEAR, 210))
        self.assertEqual([finding.worth for finding in told],
                         [worth for worth in range(300, 200, -10) for finding in range(2)])
        self.assertEqual(len(told), 20)
        self.assertIs(refusal_of(compare, first, second, Terms(10, DEAR, DEAR, 200)), TooMany)
        # And one of the greatest length, two of each other one here.
        self.assertEqual(len(compare(first, first, Terms(10, DEAR, DEAR, 210))), 19)
        self.assertIs(refusal_of(compare, first, first, Terms(10, DEAR, DEAR, 200)), TooMany)

    def test_the_twenty_first_is_worth_less_than_the_others(self):
        words = [word_of(number) for number in range(20)]
        # One of two words and nineteen of one word each; a word more makes one more of these.
        first = ["p", "q"] + words[:19]
        second = words[:19][::-1] + ["p", "q"]
        told = compare(first, second, Terms(10, DEAR, DEAR, 10))
        self.assertEqual([finding.worth for finding in told], [20] + [10] * 19)
        first = ["p", "q"] + words[:20]
        second = words[:20][::-1] + ["p", "q"]
        self.assertIs(refusal_of(compare, first, second, Terms(10, DEAR, DEAR, 10)), TooMany)
        self.assertEqual(len(compare(first, second, Terms(10, DEAR, DEAR, 11))), 1)

    def test_too_many_is_a_quote_error_and_no_other_refusal(self):
        words = [word_of(number) for number in range(21)]
        with self.assertRaises(QuoteError) as taken:
            compare(words, words[::-1], Terms(10, 2, 3, 10))
        self.assertEqual(type(taken.exception).__mro__[:3], (TooMany, QuoteError, ValueError))


class LongBooks(FindingsTest):

    def test_forty_times_one_word(self):
        words = ["a"] * 40
        told = compare(words, words, Terms(10, 2, 3, 391))
        self.assertEqual(short(told), [(400, [(i, i) for i in range(40)])])
        self.check_way(words, words, Terms(10, 2, 3, 391), told[0])
        for terms in (Terms(10, 0, 0, 1), Terms(10, 2, 3, 1), Terms(10, DEAR, DEAR, 1)):
            self.assertIs(refusal_of(compare, words, words, terms), TooMany)

    def test_one_word_throughout_in_books_of_other_lengths(self):
        terms = Terms(10, 0, 0, 200)
        told = compare(["a"] * 40, ["a"] * 20, terms)
        self.assertEqual(short(told)[0], (200, [(i, j) for i in range(40) for j in range(20) if j <= i <= j + 20]))

    def test_very_many_best_pairs(self):
        terms = Terms(10, 0, 0, 1, near=[("n", "m", 10)])
        first = ["n"] * 20 + ["a"] + ["n"] * 19
        second = ["m"] * 10 + ["a"] + ["m"] * 29
        pairs = [(i, j) for i in range(20) for j in range(10)]
        pairs += [(20, 10)] + [(i, j) for i in range(21, 40) for j in range(11, 40)]
        self.assertEqual(short(compare(first, second, terms)), [(10, pairs)])

    def test_forty_different_words(self):
        words = [word_of(number) for number in range(40)]
        told = compare(words, words, Terms(999999, 999999, 999999, 999999))
        self.assertEqual(short(told), [(999999 * 40, [(i, i) for i in range(40)])])
        self.assertEqual(told[0].row, [999999 * (i + 1) for i in range(40)])

    def test_forty_of_few_words(self):
        numbers = Numbers(5)
        counts = []
        for count in range(12):
            letters = "abcdefghijkl"[:4 + numbers.below(9)]
            first = numbers.book(letters, 40)
            second = numbers.book(letters, 38 + numbers.below(3))
            told = [5, numbers.below(4), numbers.below(4)]
            near = [("a", "b", 5), ("b", "c", 8), ("c", "a", 3)]
            best = max(max(worths) for worths in numbers_in(best_ending(first, second, Terms(*told, 1, near=near))))
            # Shares of the best worth, so that there are not always too many findings.
            for share in (100, 60, 30):
                counts.append(self.check_by_pairs(first, second, Terms(*told, best * share // 100, near=near)))
        self.assertIn(21, counts)
        self.assertGreater(len(set(counts)), 4)

    def test_a_passage_found_again_among_other_words(self):
        passage = ["in", "the", "beginning", "god", "made", "heaven", "and", "earth"]
        changed = ["in", "the", "beginning", "the", "lord", "created", "heaven", "and", "earth"]
        first = ["x"] * 12 + passage + ["x"] * 20
        second = ["y"] * 25 + changed + ["y"] * 6
        terms = Terms(10, 2, 3, 30, near=[("made", "created", 6), ("god", "lord", 1)])
        told = compare(first, second, terms)
        self.assertEqual(short(told), [
            (10 * 8 - 7 - 3, [(12, 25), (13, 26), (14, 27), (15, 29), (16, 30), (17, 31), (18, 32), (19, 33)]),
        ])

    def test_books_beyond_the_bound_are_not_refused(self):
        words = ["a"] * 60
        self.assertEqual(short(compare(words, words, Terms(10, 2, 3, 595))), [(600, [(i, i) for i in range(60)])])


class TheSameFromOtherSides(FindingsTest):

    def check_moved(self, told, other, move):
        """The findings of other books are those of the first ones, each pair moved."""
        due = [(finding.worth, sorted(move(pair) for pair in finding.pairs)) for finding in told]
        due = sorted(due, key=lambda one: (-one[0], one[1][0]))
        self.assertEqual(short(other), due)

    def test_the_two_books_exchanged_with_turned_terms(self):
        for first, second, terms in some_small_cases():
            told = compare(first, second, terms)
            other = compare(second, first, terms.turned())
            self.check_moved(told, other, lambda pair: (pair[1], pair[0]))
            for finding in other:
                self.check_way(second, first, terms.turned(), finding)

    def test_both_books_read_backwards(self):
        for first, second, terms in some_small_cases():
            told = compare(first, second, terms)
            other = compare(first[::-1], second[::-1], terms)
            self.check_moved(told, other, lambda pair: (len(first) - 1 - pair[0], len(second) - 1 - pair[1]))
            for finding in other:
                self.check_way(first[::-1], second[::-1], terms, finding)

    def test_words_that_pair_with_nothing_put_ahead_and_behind(self):
        numbers = Numbers(6)
        for first, second, terms in some_small_cases():
            ahead = numbers.below(4)
            above = numbers.below(4)
            longer = ["x"] * ahead + first + ["x"] * numbers.below(4)
            wider = ["y"] * above + second + ["y"] * numbers.below(4)
            told = compare(first, second, terms)
            other = compare(longer, wider, terms)
            self.check_moved(told, other, lambda pair: (pair[0] + ahead, pair[1] + above))
            for finding in other:
                self.check_way(longer, wider, terms, finding)

    def test_all_three_for_long_books(self):
        numbers = Numbers(7)
        terms = Terms(10, 2, 3, 30, near=[("a", "b", 4), ("b", "c", 10)])
        counts = []
        for count in range(10):
            first = numbers.book("abcdefghijklmnopqrst", 34)
            second = numbers.book("abcdefghijklmnopqrst", 35)
            told = compare(first, second, terms)
            counts.append(len(told))
            self.check_moved(told, compare(second, first, terms.turned()), lambda pair: (pair[1], pair[0]))
            self.check_moved(told, compare(first[::-1], second[::-1], terms),
                             lambda pair: (33 - pair[0], 34 - pair[1]))
            self.check_moved(told, compare(["x"] * 6 + first, ["y"] * 2 + second + ["z"] * 3, terms),
                             lambda pair: (pair[0] + 6, pair[1] + 2))
        self.assertGreater(max(counts), 1)


class NothingHandedInIsKeptOrChanged(FindingsTest):

    def setUp(self):
        self.terms = Terms(10, 0, 0, 10, near=[("a", "b", 4)])

    def test_books_stay_as_they_were(self):
        first = ["a", "b", "a"]
        second = ["b", "a"]
        compare(first, second, self.terms)
        self.assertEqual((first, second), (["a", "b", "a"], ["b", "a"]))
        self.assertEqual((self.terms.same, self.terms.out, self.terms.into, self.terms.least, self.terms.part,
                          self.terms.near), (10, 0, 0, 10, 50, [("a", "b", 4)]))

    def test_refused_books_stay_as_they_were_and_nothing_is_kept(self):
        words = [word_of(number) for number in range(21)]
        first = list(words)
        second = words[::-1]
        self.assertIs(refusal_of(compare, first, second, self.terms), TooMany)
        self.assertEqual((first, second), (words, words[::-1]))
        self.assertEqual(short(compare(["a"], ["a"], self.terms)), [(10, [(0, 0)])])

    def test_a_later_change_of_the_books_changes_nothing_that_was_told(self):
        first = ["a", "b"]
        second = ["a", "b"]
        told = compare(first, second, self.terms)
        before = [fields_of(finding) for finding in told]
        first.clear()
        second[0] = "x"
        self.assertEqual([fields_of(finding) for finding in told], before)

    def test_what_is_told_is_made_anew(self):
        first = ["a", "b", "a"]
        second = ["b", "a", "c"]
        due = [fields_of(finding) for finding in compare(first, second, self.terms)]
        told = compare(first, second, self.terms)
        for finding in told:
            finding.worth = 77
            finding.way.append((9, 9))
            finding.pairs.clear()
            finding.row[0] = 5
        told.clear()
        self.assertEqual([fields_of(finding) for finding in compare(first, second, self.terms)], due)

    def test_the_lists_of_a_finding_are_lists_of_their_own(self):
        told = compare(["a", "b"], ["a", "b"], Terms(10, 2, 3, 1))
        self.assertEqual(told[0].way, told[0].pairs)
        told[0].way.append((9, 9))
        self.assertEqual(told[0].pairs, [(0, 0), (1, 1)])
        self.assertEqual(told[0].row, [10, 20])

    def test_the_arguments_bear_their_names(self):
        told = compare(terms=self.terms, second=["b"], first=["x", "b"])
        self.assertEqual(short(told), [(10, [(1, 0)])])


if __name__ == "__main__":
    unittest.main()
