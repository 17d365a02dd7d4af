"""Points 1 to 5, as far as words are reached by them."""

import unittest

from quotefind.errors import BadBook, BadWord
from quotefind.words import BOOK_MOST, WORD_MOST, is_word, read_words
from tests.helper import LETTERS, SIGNS, refusal_of, word_of

OTHER_SIGNS = [sign for sign in SIGNS if not sign.isalpha()]
NO_SMALL_LETTERS = [sign for sign in SIGNS if sign not in LETTERS]


class Bounds(unittest.TestCase):

    def test_bounds(self):
        self.assertEqual(WORD_MOST, 12)
        self.assertEqual(BOOK_MOST, 40)


class IsWord(unittest.TestCase):

    def test_lengths(self):
        self.assertIs(is_word(""), False)
        self.assertIs(is_word("a"), True)
        self.assertIs(is_word("abcdefghijk"), True)
        self.assertIs(is_word("abcdefghijkl"), True)
        self.assertIs(is_word("abcdefghijklm"), False)
        self.assertIs(is_word("a" * 1000), False)

    def test_every_small_letter_and_no_other_sign(self):
        for sign in SIGNS:
            with self.subTest(sign=sign):
                self.assertIs(is_word(sign), sign in LETTERS)

    def test_other_signs_at_the_first_a_middle_and_the_last_place(self):
        for sign in NO_SMALL_LETTERS:
            for text in (sign + "ord", "wo" + sign + "d", "wor" + sign):
                with self.subTest(text=text):
                    self.assertIs(is_word(text), False)

    def test_other_signs_in_the_longest_word(self):
        for place in range(12):
            for sign in ("Q", "7", " ", "-"):
                text = "x" * place + sign + "x" * (11 - place)
                with self.subTest(text=text):
                    self.assertIs(is_word(text), False)

    def test_every_small_letter_at_the_first_a_middle_and_the_last_place(self):
        for letter in LETTERS:
            for text in (letter + "mm", "m" + letter + "m", "mm" + letter):
                self.assertIs(is_word(text), True)

    def test_the_argument_bears_its_name(self):
        self.assertIs(is_word(text="word"), True)


class ReadWords(unittest.TestCase):

    def test_words_in_order(self):
        self.assertEqual(read_words("in the beginning was the word"),
                         ["in", "the", "beginning", "was", "the", "word"])

    def test_no_word(self):
        self.assertEqual(read_words(""), [])
        self.assertEqual(read_words(" "), [])
        self.assertEqual(read_words("12, 34; [56] -- ~ 78!"), [])
        self.assertEqual(read_words("".join(OTHER_SIGNS)), [])

    def test_every_other_sign_parts_words(self):
        for sign in OTHER_SIGNS:
            with self.subTest(sign=sign):
                self.assertEqual(read_words("ab" + sign + "cd"), ["ab", "cd"])
                self.assertEqual(read_words("ab" + sign * 3 + "cd"), ["ab", "cd"])
                self.assertEqual(read_words(sign + "ab" + sign), ["ab"])

    def test_capitals_are_made_small_and_part_nothing(self):
        self.assertEqual(read_words("The LORD saId"), ["the", "lord", "said"])
        for letter in LETTERS:
            with self.subTest(letter=letter):
                self.assertEqual(read_words("x" + letter.upper() + "y"), ["x" + letter + "y"])
                self.assertEqual(read_words("x" + letter + "y"), ["x" + letter + "y"])

    def test_runs_are_the_longest(self):
        self.assertEqual(read_words("don't stop2go a_b"), ["don", "t", "stop", "go", "a", "b"])

    def test_equal_words_all_stand(self):
        self.assertEqual(read_words("o O o"), ["o", "o", "o"])

    def test_what_is_read_are_words(self):
        for word in read_words("Whan that Aprill, with his shoures soote"):
            self.assertIs(is_word(word), True)

    def test_runs_of_twelve_and_thirteen_letters(self):
        self.assertEqual(read_words("abcdefghijkl"), ["abcdefghijkl"])
        self.assertEqual(read_words("ABCDEFghijkl"), ["abcdefghijkl"])
        self.assertEqual(read_words("abcdefghijkl,abcdefghijkl"), ["abcdefghijkl"] * 2)
        self.assertIs(refusal_of(read_words, "abcdefghijklm"), BadWord)
        self.assertIs(refusal_of(read_words, "abcdefGHIJKLM"), BadWord)
        self.assertIs(refusal_of(read_words, "a" * 1000), BadWord)
        self.assertIs(refusal_of(read_words, "A" * 1000), BadWord)

    def test_a_long_run_at_each_place(self):
        for place in range(5):
            words = ["ab"] * 4
            words.insert(place, "x" * 13)
            with self.subTest(place=place):
                self.assertIs(refusal_of(read_words, " ".join(words)), BadWord)

    def test_forty_and_forty_one_words(self):
        words = [word_of(number) for number in range(41)]
        self.assertEqual(read_words(" ".join(words[:39])), words[:39])
        self.assertEqual(read_words(" ".join(words[:40])), words[:40])
        self.assertIs(refusal_of(read_words, " ".join(words)), BadBook)
        self.assertEqual(read_words("a " * 40), ["a"] * 40)
        self.assertIs(refusal_of(read_words, "a " * 41), BadBook)
        self.assertIs(refusal_of(read_words, "a " * 500), BadBook)

    def test_bad_word_ahead_of_bad_book_wherever_the_long_run_stands(self):
        for place in range(46):
            words = ["ab"] * 45
            words.insert(place, "x" * 13)
            with self.subTest(place=place):
                self.assertIs(refusal_of(read_words, " ".join(words)), BadWord)

    def test_bad_word_where_the_long_run_is_the_forty_first_word(self):
        self.assertIs(refusal_of(read_words, "a " * 40 + "x" * 13), BadWord)

    def test_a_text_of_a_thousand_signs(self):
        self.assertEqual(read_words("." * 996 + "Word"), ["word"])

    def test_what_is_told_is_made_anew(self):
        told = read_words("one two")
        told.append("three")
        told[0] = "nought"
        self.assertEqual(read_words("one two"), ["one", "two"])
        nothing = read_words("")
        nothing.append("one")
        self.assertEqual(read_words(""), [])

    def test_a_refused_call_changes_nothing(self):
        refusal_of(read_words, "x" * 13)
        refusal_of(read_words, "a " * 41)
        self.assertEqual(read_words("one two"), ["one", "two"])

    def test_the_argument_bears_its_name(self):
        self.assertEqual(read_words(text="One"), ["one"])


if __name__ == "__main__":
    unittest.main()
