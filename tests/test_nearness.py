"""Points 25 and 26: stretches of a book that hold the told words; points 1 and 2 for them."""

import itertools
import unittest

from quotefind.nearness import SEARCH_MOST, WITHIN_MOST, near_stretches
from quotefind.terms import Terms
from tests.helper import Numbers, near_forms, small_books, stretches_one_by_one, word_of, words_from

PLAIN = Terms(10, 2, 3, 20)
NEAR = Terms(10, 2, 3, 20, near=[("thou", "you", 4), ("ye", "you", 10), ("lord", "god", 999999)])

# The words a, b and c, near each other in one order, in the other, in both, and in a row.
NEAR_TERMS = [
    PLAIN,
    Terms(1, 0, 0, 1, near=[("a", "b", 0)]),
    Terms(1, 0, 0, 1, near=[("b", "a", 5)]),
    Terms(1, 0, 0, 1, near=[("a", "b", 1), ("b", "a", 2)]),
    Terms(1, 0, 0, 1, near=[("a", "b", 1), ("c", "b", 1)]),
    Terms(1, 0, 0, 1, near=[("a", "b", 1), ("b", "c", 1), ("d", "c", 1)]),
]


def near(text, told, within, terms=PLAIN):
    return near_stretches(text.split(), told.split(), within, terms)


class Bounds(unittest.TestCase):

    def test_bounds(self):
        self.assertEqual(SEARCH_MOST, 6)
        self.assertEqual(WITHIN_MOST, 40)


class OneByOne(unittest.TestCase):

    def check(self, words, told, within, terms):
        due = stretches_one_by_one(words, told, within, terms)
        self.assertEqual(near_stretches(words, told, within, terms), due, (words, told, within, terms.near))
        return len(due)

    def test_every_small_book(self):
        told_lists = [list(told) for count in (1, 2, 3) for told in itertools.permutations("abc", count)]
        for terms in NEAR_TERMS:
            for words in small_books("abc", 4):
                for told in told_lists[:6] + told_lists[-3:] + [["d"], ["d", "a"]]:
                    for within in (1, 2, 3, 4):
                        self.check(words, told, within, terms)

    def test_longer_books(self):
        numbers = Numbers(11)
        most = 0
        for count in range(600):
            letters = "abcdefgh"[:2 + numbers.below(7)]
            words = numbers.book(letters, numbers.below(15))
            told = sorted(set(numbers.book(letters + "x", 1 + numbers.below(6))))
            most = max(most, self.check(words, told, 1 + numbers.below(12), numbers.one_of(NEAR_TERMS)))
        self.assertGreater(most, 4)

    def test_forty_words(self):
        numbers = Numbers(12)
        for count in range(25):
            words = numbers.book("abcdefghij", 40)
            told = sorted(set(numbers.book("abcdefghij", 1 + numbers.below(6))))
            for within in (5, 12, 40):
                self.check(words, told, within, NEAR_TERMS[-1])


class Answered(unittest.TestCase):

    def test_equal_words(self):
        self.assertEqual(near("in the beginning", "the", 1), [(1, 1)])
        self.assertEqual(near("the word the", "the", 1), [(0, 0), (2, 2)])
        self.assertEqual(near("in the beginning", "them", 3), [])

    def test_near_forms_in_either_order(self):
        self.assertEqual(near("so thou", "you", 1, NEAR), [(1, 1)])
        self.assertEqual(near("so you", "thou", 1, NEAR), [(1, 1)])

    def test_a_near_form_also_where_its_pair_is_worth_nought_or_below(self):
        self.assertEqual(near("so ye", "you", 1, NEAR), [(1, 1)])
        self.assertEqual(near("so you", "ye", 1, NEAR), [(1, 1)])
        self.assertEqual(near("god", "lord", 1, NEAR), [(0, 0)])
        self.assertEqual(near("lord", "god", 1, NEAR), [(0, 0)])

    def test_near_forms_are_not_put_together(self):
        self.assertEqual(near("thou", "ye", 1, NEAR), [])
        self.assertEqual(near("ye", "thou", 1, NEAR), [])

    def test_no_near_form_of_other_terms(self):
        self.assertEqual(near("thou", "you", 1, PLAIN), [])

    def test_one_place_answers_several(self):
        self.assertEqual(near("so you", "thou ye", 1, NEAR), [(1, 1)])
        self.assertEqual(near("so you", "thou ye you", 2, NEAR), [(1, 1)])
        self.assertEqual(near("thou ye", "thou ye you", 2, NEAR), [(0, 1)])

    def test_every_one_of_sixty_near_forms(self):
        terms = Terms(10, 2, 3, 20, near=near_forms(60))
        for number in range(60):
            self.assertEqual(near_stretches([word_of(number)], [word_of(number + 1)], 1, terms), [(0, 0)])
            self.assertEqual(near_stretches([word_of(number + 1)], [word_of(number)], 1, terms), [(0, 0)])
        self.assertEqual(near_stretches([word_of(0)], [word_of(2)], 1, terms), [])


class Stretches(unittest.TestCase):

    def test_the_order_of_the_told_words_does_not_count(self):
        for told in itertools.permutations(["was", "the", "word"]):
            self.assertEqual(near_stretches("in the beginning was the word".split(), list(told), 6, PLAIN), [(3, 5)])

    def test_not_without_the_first_place_nor_without_the_last(self):
        self.assertEqual(near("a a b", "a b", 3), [(1, 2)])
        self.assertEqual(near("a b b", "a b", 3), [(0, 1)])
        self.assertEqual(near("a b a", "a b", 3), [(0, 1), (1, 2)])
        self.assertEqual(near("a a b b", "a b", 4), [(1, 2)])

    def test_a_stretch_may_be_longer_than_another_one(self):
        self.assertEqual(near("a b x x a", "a b", 5), [(0, 1), (1, 4)])
        self.assertEqual(near("a x b a", "a b", 5), [(0, 2), (2, 3)])

    def test_a_longer_stretch_does_not_stand_where_a_shorter_one_lies_in_it(self):
        self.assertEqual(near("a c b x a b c", "a b c", 7), [(0, 2), (1, 4), (4, 6)])

    def test_within_of_just_the_length_and_one_less(self):
        self.assertEqual(near("a x x b", "a b", 5), [(0, 3)])
        self.assertEqual(near("a x x b", "a b", 4), [(0, 3)])
        self.assertEqual(near("a x x b", "a b", 3), [])
        self.assertEqual(near("a b x a", "a b", 2), [(0, 1)])
        self.assertEqual(near("a b x a", "a b", 3), [(0, 1), (1, 3)])

    def test_one_told_word_within_one_place(self):
        self.assertEqual(near("a b a a", "a", 1), [(0, 0), (2, 2), (3, 3)])
        self.assertEqual(near("a b a a", "a", 40), [(0, 0), (2, 2), (3, 3)])
        self.assertEqual(near("a b", "a b", 1), [])

    def test_books_without_words(self):
        self.assertEqual(near("", "a", 1), [])
        self.assertEqual(near("", "a b", 40, NEAR), [])

    def test_a_told_word_that_nothing_answers(self):
        self.assertEqual(near("a b a b", "a b c", 4), [])

    def test_six_told_words_over_forty_places(self):
        words = ["x"] * 40
        for number, place in enumerate((0, 7, 8, 20, 21, 39)):
            words[place] = word_of(number)
        self.assertEqual(near_stretches(words, words_from(0, 5), 40, PLAIN), [(0, 39)])
        self.assertEqual(near_stretches(words, words_from(0, 5), 39, PLAIN), [])

    def test_by_rising_low(self):
        words = ["a", "b"] * 20
        self.assertEqual(near_stretches(words, ["b", "a"], 40, PLAIN), [(low, low + 1) for low in range(39)])

    def test_a_book_beyond_the_bound_is_not_refused(self):
        self.assertEqual(near_stretches(["x"] * 58 + ["a", "b"], ["a", "b"], 40, PLAIN), [(58, 59)])


class NothingHandedInIsKeptOrChanged(unittest.TestCase):

    def test_what_is_handed_in_stays_as_it_was(self):
        words = ["so", "you", "so"]
        told = ["thou", "so"]
        near_stretches(words, told, 3, NEAR)
        self.assertEqual((words, told), (["so", "you", "so"], ["thou", "so"]))
        self.assertEqual(NEAR.near, [("thou", "you", 4), ("ye", "you", 10), ("lord", "god", 999999)])

    def test_what_is_told_is_made_anew(self):
        found = near("a b", "a", 1)
        found.append((5, 5))
        self.assertEqual(near("a b", "a", 1), [(0, 0)])
        nothing = near("", "a", 1)
        nothing.append((5, 5))
        self.assertEqual(near("", "a", 1), [])

    def test_plain_lists_tuples_and_numbers(self):
        found = near("a b a", "a b", 2)
        self.assertIs(type(found), list)
        for stretch in found:
            self.assertIs(type(stretch), tuple)
            self.assertEqual([type(place) for place in stretch], [int, int])

    def test_the_arguments_bear_their_names(self):
        self.assertEqual(near_stretches(terms=PLAIN, within=2, told=["a", "b"], words=["b", "a"]), [(0, 1)])


if __name__ == "__main__":
    unittest.main()
