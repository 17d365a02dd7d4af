"""Points 1 to 3, 11 and 12: what ways are worth, and what is no way."""

import itertools
import unittest

from quotefind.errors import BadWay, QuoteError
from quotefind.terms import Terms
from quotefind.ways import way_row, way_worth
from tests.helper import SMALL_TERMS, all_ways, lies_before, open_pairs, refusal_of, small_books, worth_by_sum

FAR = 10 ** 60


class WaysTest(unittest.TestCase):

    def check(self, first, second, terms, way, row):
        self.assertEqual(way_row(first, second, terms, way), row)
        self.assertEqual(way_worth(first, second, terms, way), row[-1])

    def check_refused(self, first, second, terms, way):
        self.assertIs(refusal_of(way_row, first, second, terms, way), BadWay, way)
        self.assertIs(refusal_of(way_worth, first, second, terms, way), BadWay, way)


class Pairs(WaysTest):

    def setUp(self):
        self.terms = Terms(10, 2, 3, 20, near=[
            ("thou", "you", 4), ("hath", "has", 10), ("unto", "to", 25), ("ay", "yes", 1), ("yes", "ay", 7),
        ])

    def test_equal_words(self):
        self.check(["word"], ["word"], self.terms, [(0, 0)], [10])
        self.check(["thou"], ["thou"], self.terms, [(0, 0)], [10])

    def test_near_forms_in_their_order(self):
        self.check(["thou"], ["you"], self.terms, [(0, 0)], [6])

    def test_near_forms_in_the_other_order_may_not_stand(self):
        self.check_refused(["you"], ["thou"], self.terms, [(0, 0)])
        self.check_refused(["a", "has"], ["a", "hath"], self.terms, [(0, 0), (1, 1)])

    def test_near_forms_told_in_both_orders(self):
        self.check(["ay", "yes"], ["yes", "ay"], self.terms, [(0, 0), (1, 1)], [9, 12])

    def test_other_words_may_not_stand(self):
        self.check_refused(["word"], ["other"], self.terms, [(0, 0)])
        self.check_refused(["thou"], ["ye"], self.terms, [(0, 0)])

    def test_pairs_worth_nought(self):
        self.check(["hath"], ["has"], self.terms, [(0, 0)], [0])
        self.check(["a", "hath", "b"], ["a", "has", "b"], self.terms, [(0, 0), (1, 1), (2, 2)], [10, 10, 20])

    def test_pairs_worth_less_than_nought(self):
        self.check(["unto"], ["to"], self.terms, [(0, 0)], [-15])
        self.check(["unto", "a", "unto"], ["to", "a", "to"], self.terms, [(0, 0), (1, 1), (2, 2)], [-15, -5, -20])


class Gaps(WaysTest):

    def setUp(self):
        self.terms = Terms(10, 2, 3, 20)
        self.first = ["a", "x", "x", "b", "x", "c"]
        self.second = ["a", "y", "b", "y", "y", "y", "c"]

    def test_no_gap(self):
        self.check(["a", "b", "c"], ["a", "b", "c"], self.terms, [(0, 0), (1, 1), (2, 2)], [10, 20, 30])

    def test_words_left_out_of_the_first_book(self):
        self.check(["a", "x", "b"], ["a", "b"], self.terms, [(0, 0), (2, 1)], [10, 18])
        self.check(["a", "x", "x", "x", "b"], ["a", "b"], self.terms, [(0, 0), (4, 1)], [10, 14])

    def test_words_put_into_the_second_book(self):
        self.check(["a", "b"], ["a", "y", "b"], self.terms, [(0, 0), (1, 2)], [10, 17])
        self.check(["a", "b"], ["a", "y", "y", "y", "b"], self.terms, [(0, 0), (1, 4)], [10, 11])

    def test_both(self):
        self.check(self.first, self.second, self.terms, [(0, 0), (3, 2)], [10, 13])
        self.check(self.first, self.second, self.terms, [(0, 0), (3, 2), (5, 6)], [10, 13, 12])
        self.check(self.first, self.second, self.terms, [(0, 0), (5, 6)], [10, -3])

    def test_a_pair_left_out_is_paid_for_on_both_sides(self):
        self.check(["a", "b", "c"], ["a", "b", "c"], self.terms, [(0, 0), (2, 2)], [10, 15])

    def test_what_lies_before_and_behind_costs_nothing(self):
        self.check(["x", "x", "a", "x", "x"], ["y", "a", "y", "y"], self.terms, [(2, 1)], [10])
        self.check(["x", "x", "a", "b", "x"], ["y", "a", "b", "y", "y"], self.terms, [(2, 1), (3, 2)], [10, 20])
        self.check(self.first, self.second, self.terms, [(5, 6)], [10])

    def test_prices_of_nought(self):
        self.check(self.first, self.second, Terms(10, 0, 0, 1), [(0, 0), (3, 2), (5, 6)], [10, 20, 30])
        self.check(self.first, self.second, Terms(10, 0, 1, 1), [(0, 0), (3, 2), (5, 6)], [10, 19, 26])
        self.check(self.first, self.second, Terms(10, 1, 0, 1), [(0, 0), (3, 2), (5, 6)], [10, 18, 27])

    def test_the_greatest_prices(self):
        terms = Terms(1, 999999, 999999, 1, near=[("a", "b", 999999)])
        first = ["a"] + ["x"] * 38 + ["a"]
        second = ["b"] + ["y"] * 38 + ["b"]
        self.check(first, second, terms, [(0, 0), (39, 39)], [-999998, -2 * 999998 - 76 * 999999])

    def test_the_row_goes_up_and_down(self):
        terms = Terms(5, 1, 1, 1, near=[("n", "m", 9)])
        self.check(["a", "n", "x", "b"], ["a", "m", "b"], terms, [(0, 0), (1, 1), (3, 2)], [5, 1, 5])


class AllSmallWays(WaysTest):

    def test_every_way_between_small_books(self):
        for terms in SMALL_TERMS:
            for first, second in itertools.product(small_books("ab", 3), repeat=2):
                for way, worth in all_ways(first, second, terms).items():
                    row = [worth_by_sum(first, second, terms, way[:end]) for end in range(1, len(way) + 1)]
                    self.check(first, second, terms, list(way), row)
                    self.assertEqual(row[-1], worth)

    def test_every_list_of_up_to_two_pairs_in_and_about_a_small_book(self):
        terms = Terms(3, 1, 2, 1, near=[("a", "b", 1)])
        first = ["a", "b"]
        second = ["b", "a"]
        pairs = open_pairs(first, second, terms)
        near_places = list(itertools.product(range(-2, 4), repeat=2))
        for count in range(3):
            for way in itertools.product(near_places, repeat=count):
                rises = all(lies_before(pair, later) for pair, later in zip(way, way[1:]))
                if count > 0 and rises and all(pair in pairs for pair in way):
                    self.assertEqual(way_worth(first, second, terms, list(way)),
                                     worth_by_sum(first, second, terms, way))
                else:
                    self.check_refused(first, second, terms, list(way))

    def test_forty_words(self):
        terms = Terms(7, 1, 1, 1)
        words = ["a"] * 40
        self.check(words, words, terms, [(i, i) for i in range(40)], [7 * (i + 1) for i in range(40)])
        self.check(words, words, terms, [(39, 0)], [7])
        self.check(words, words, terms, [(0, 0), (39, 39)], [7, 14 - 76])

    def test_books_beyond_the_bound_are_not_refused(self):
        words = ["a"] * 60
        self.check(words, words, Terms(7, 1, 1, 1), [(i, i) for i in range(60)], [7 * (i + 1) for i in range(60)])


class NoWays(WaysTest):

    def setUp(self):
        self.terms = Terms(10, 2, 3, 20, near=[("n", "m", 4)])
        self.book = ["a", "a", "a"]

    def test_the_empty_list(self):
        self.check_refused(self.book, self.book, self.terms, [])
        self.check_refused([], [], self.terms, [])

    def test_places_that_the_first_book_does_not_have(self):
        for place in (-1, -2, -3, 3, 4, 40, 200, -FAR, FAR):
            with self.subTest(place=place):
                self.check_refused(self.book, self.book, self.terms, [(place, 0)])
                self.check_refused(self.book, self.book, self.terms, [(place, 2)])

    def test_places_that_the_second_book_does_not_have(self):
        for place in (-1, -2, -3, 3, 4, 40, 200, -FAR, FAR):
            with self.subTest(place=place):
                self.check_refused(self.book, self.book, self.terms, [(0, place)])
                self.check_refused(self.book, self.book, self.terms, [(2, place)])

    def test_such_places_ahead_of_and_behind_good_ones(self):
        for way in ([(-1, 0), (0, 1)], [(0, -1), (1, 0)], [(-1, -1), (0, 0)], [(0, 0), (3, 1)],
                    [(0, 0), (1, 3)], [(1, 1), (2, 2), (3, 3)], [(0, 0), (FAR, 1)], [(0, 0), (1, FAR)]):
            self.check_refused(self.book, self.book, self.terms, way)

    def test_each_book_has_its_own_length(self):
        self.check_refused(["a"], ["a", "a"], self.terms, [(1, 0)])
        self.check_refused(["a", "a"], ["a"], self.terms, [(0, 1)])
        self.check(["a"], ["a", "a"], self.terms, [(0, 1)], [10])
        self.check(["a", "a"], ["a"], self.terms, [(1, 0)], [10])

    def test_pairs_that_may_not_stand_at_each_place(self):
        self.check_refused(["b", "a", "a"], self.book, self.terms, [(0, 0), (1, 1), (2, 2)])
        self.check_refused(["a", "b", "a"], self.book, self.terms, [(0, 0), (1, 1), (2, 2)])
        self.check_refused(["a", "a", "b"], self.book, self.terms, [(0, 0), (1, 1), (2, 2)])
        self.check_refused(["a", "m", "a"], ["a", "n", "a"], self.terms, [(0, 0), (1, 1), (2, 2)])

    def test_places_that_stay_or_fall_in_one_book_while_they_rise_in_the_other(self):
        for way in ([(0, 0), (0, 1)], [(0, 0), (1, 0)], [(1, 0), (0, 1)], [(0, 1), (1, 0)],
                    [(2, 0), (0, 2)], [(0, 2), (2, 0)]):
            self.check_refused(self.book, self.book, self.terms, way)

    def test_places_that_stay_or_fall_in_both(self):
        for way in ([(0, 0), (0, 0)], [(1, 1), (0, 0)], [(2, 2), (1, 1), (0, 0)]):
            self.check_refused(self.book, self.book, self.terms, way)

    def test_places_that_do_not_rise_further_on(self):
        for way in ([(0, 0), (1, 1), (1, 2)], [(0, 0), (1, 1), (2, 1)], [(0, 0), (2, 1), (1, 2)],
                    [(0, 0), (1, 2), (2, 1)], [(0, 0), (1, 1), (0, 0)]):
            self.check_refused(self.book, self.book, self.terms, way)

    def test_empty_books(self):
        for first, second in (([], []), ([], ["a"]), (["a"], [])):
            for pair in ((0, 0), (-1, 0), (0, -1), (-1, -1), (1, 1)):
                self.check_refused(first, second, self.terms, [pair])
            self.check_refused(first, second, self.terms, [])

    def test_bad_way_is_a_quote_error_and_no_other_refusal(self):
        with self.assertRaises(QuoteError) as taken:
            way_row(self.book, self.book, self.terms, [])
        self.assertEqual(type(taken.exception).__mro__[:3], (BadWay, QuoteError, ValueError))


class NothingHandedInIsKeptOrChanged(WaysTest):

    def test_books_and_ways_stay_as_they_were(self):
        terms = Terms(10, 2, 3, 20)
        first = ["a", "x", "b"]
        second = ["a", "b"]
        for way in ([(0, 0), (2, 1)], [(0, 0), (1, 1)], []):
            handed = list(way)
            refusal_of(way_row, first, second, terms, handed)
            refusal_of(way_worth, first, second, terms, handed)
            self.assertEqual((first, second, handed), (["a", "x", "b"], ["a", "b"], way))
        self.assertEqual((terms.same, terms.out, terms.into, terms.least, terms.part, terms.near),
                         (10, 2, 3, 20, 50, []))

    def test_what_is_told_is_made_anew(self):
        terms = Terms(10, 2, 3, 20)
        told = way_row(["a"], ["a"], terms, [(0, 0)])
        told.append(77)
        told[0] = 5
        self.check(["a"], ["a"], terms, [(0, 0)], [10])

    def test_a_changed_way_is_looked_at_anew(self):
        terms = Terms(10, 2, 3, 20)
        way = [(0, 0)]
        told = way_row(["a", "b"], ["a", "b"], terms, way)
        way.append((1, 1))
        self.assertEqual(told, [10])
        self.check(["a", "b"], ["a", "b"], terms, way, [10, 20])

    def test_a_refused_call_changes_nothing(self):
        terms = Terms(10, 2, 3, 20)
        self.check_refused(["a"], ["a"], terms, [(0, 1)])
        self.check(["a"], ["a"], terms, [(0, 0)], [10])

    def test_the_arguments_bear_their_names(self):
        told = {"way": [(0, 0)], "terms": Terms(10, 2, 3, 20), "second": ["a", "b"], "first": ["a"]}
        self.assertEqual(way_row(**told), [10])
        self.assertEqual(way_worth(**told), 10)

    def test_plain_lists_and_numbers(self):
        terms = Terms(10, 2, 3, 20)
        self.assertIs(type(way_row(["a"], ["a"], terms, [(0, 0)])), list)
        self.assertIs(type(way_worth(["a"], ["a"], terms, [(0, 0)])), int)


if __name__ == "__main__":
    unittest.main()
