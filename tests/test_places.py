"""Points 2 and 6: where the words of a book stand."""

import unittest

from quotefind.places import places_of
from tests.helper import word_of


class PlacesOf(unittest.TestCase):

    def test_words_that_stand_once(self):
        self.assertEqual(places_of(["in", "the", "end"]), {"in": [0], "the": [1], "end": [2]})

    def test_words_that_stand_many_times(self):
        self.assertEqual(places_of(["to", "be", "or", "not", "to", "be"]),
                         {"to": [0, 4], "be": [1, 5], "or": [2], "not": [3]})
        self.assertEqual(places_of(["a"] * 5), {"a": [0, 1, 2, 3, 4]})

    def test_an_empty_book_has_no_key(self):
        self.assertEqual(places_of([]), {})

    def test_a_full_book(self):
        words = [word_of(number % 7) for number in range(40)]
        told = places_of(words)
        self.assertEqual(told, {word_of(rest): list(range(rest, 40, 7)) for rest in range(7)})

    def test_a_book_beyond_the_bound_is_not_refused(self):
        self.assertEqual(places_of(["a"] * 200), {"a": list(range(200))})

    def test_a_plain_dict_of_plain_lists(self):
        told = places_of(["a", "b", "a"])
        self.assertIs(type(told), dict)
        for places in told.values():
            self.assertIs(type(places), list)
        self.assertNotIn("c", told)
        with self.assertRaises(KeyError):
            told["c"]

    def test_the_book_stays_as_it_was(self):
        words = ["b", "a", "b"]
        places_of(words)
        self.assertEqual(words, ["b", "a", "b"])

    def test_a_later_change_of_the_book_changes_nothing_that_was_told(self):
        words = ["b", "a", "b"]
        told = places_of(words)
        words.append("a")
        words[0] = "c"
        self.assertEqual(told, {"b": [0, 2], "a": [1]})
        self.assertEqual(places_of(words), {"c": [0], "a": [1, 3], "b": [2]})

    def test_what_is_told_is_made_anew(self):
        words = ["b", "a", "b"]
        told = places_of(words)
        told["b"].append(7)
        told["c"] = [8]
        self.assertEqual(places_of(words), {"b": [0, 2], "a": [1]})
        self.assertEqual(words, ["b", "a", "b"])

    def test_the_lists_told_are_shared_by_no_two_words(self):
        told = places_of(["a", "b"])
        told["a"].append(9)
        self.assertEqual(told["b"], [1])

    def test_the_argument_bears_its_name(self):
        self.assertEqual(places_of(words=["a"]), {"a": [0]})


if __name__ == "__main__":
    unittest.main()
