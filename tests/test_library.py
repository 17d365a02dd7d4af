"""Points 18 to 22: books that come and go, and what was found; points 1 to 3 for a library."""

import itertools
import unittest

from quotefind.entries import Entry
from quotefind.errors import (
    BadBook, BadName, BadSearch, BadWord, BadYear, Full, HasLeft, NameTaken, NoBook, NoFinding, QuoteError, TooMany,
)
from quotefind.library import BOOKS_MOST, YEAR_MOST, Library
from quotefind.terms import Terms
from tests.helper import (
    SIGNS, Account, Numbers, entry_fields, refusal_of, state_of, word_of, words_from,
)

FAR = 10 ** 60
# So dear that no way goes over a gap.
DEAR = 999999
TERMS = Terms(10, 2, 3, 20, near=[("thou", "you", 4), ("hath", "has", 1)])
SINGLE = Terms(10, DEAR, DEAR, 10)
SEARCHES = [(["the"], 1), (["you", "the"], 5), ([word_of(0)], 40), (["a"], 3)]


def library_of(terms, *books):
    library = Library(terms)
    for name, year, text in books:
        library.come(name, year, text.split())
    return library


def some_library():
    """Three books with something between each two, and one that has left."""
    library = library_of(
        TERMS,
        ("gone", 3, "lo thou art the man of the house"),
        ("gen", 1, "lo thou art the man that hath the ear"),
        ("psalm", 2, "he is the man that has the ear and you art the man"),
        ("acts", 4, "and so the man that has an ear"),
    )
    library.leave("gone")
    return library


class LibraryTest(unittest.TestCase):

    def check_refused(self, library, refusal, call, *told):
        """The call is refused with just this class, and all that the library tells stays."""
        before = state_of(library, SEARCHES)
        handed = [list(one) if isinstance(one, list) else one for one in told]
        with self.assertRaises(QuoteError) as taken:
            call(*told)
        self.assertIs(type(taken.exception), refusal)
        self.assertEqual(state_of(library, SEARCHES), before)
        self.assertEqual(list(told), handed)

    def check_comes(self, library, name, year, words):
        library.come(name, year, words)
        self.assertIn(name, library.books())
        self.assertEqual(library.words_in(name), words)


class Bounds(unittest.TestCase):

    def test_bounds(self):
        self.assertEqual(BOOKS_MOST, 12)
        self.assertEqual(YEAR_MOST, 9999)


class AtFirst(LibraryTest):

    def test_no_book_and_no_entry(self):
        library = Library(TERMS)
        self.assertEqual(library.books(), [])
        self.assertEqual(library.found(), 0)
        self.assertEqual(library.listed(), [])
        self.assertEqual(library.search(["a"], 1), [])

    def test_what_is_refused_without_books(self):
        library = Library(TERMS)
        self.check_refused(library, NoBook, library.leave, "a")
        self.check_refused(library, NoBook, library.words_in, "a")
        self.check_refused(library, NoBook, library.between, "a", "a")
        for number in (-1, 0, 1):
            self.check_refused(library, NoFinding, library.entry, number)
            self.check_refused(library, NoFinding, library.follow, number)


class Refusals(LibraryTest):
    """Point 18, each refusal by itself."""

    def test_names(self):
        for name in ("", "abcdefghijklm", "Gen", "geN", "two words", " gen", "gen ", "gen1", "-", "a" * 1000):
            library = some_library()
            self.check_refused(library, BadName, library.come, name, 5, ["a"])
        for name in ("a", "z", "abcdefghijkl"):
            self.check_comes(some_library(), name, 5, ["a"])

    def test_names_of_every_single_sign(self):
        for sign in SIGNS:
            library = Library(TERMS)
            due = None if sign.islower() else BadName
            self.assertIs(refusal_of(library.come, sign, 5, ["a"]), due)
            self.assertEqual(library.books(), [sign] if due is None else [])

    def test_years(self):
        for year in (-1, 10000, -FAR, FAR):
            library = some_library()
            self.check_refused(library, BadYear, library.come, "new", year, ["a"])
        for year in (0, 1, 9998, 9999):
            self.check_comes(some_library(), "new", year, ["a"])

    def test_lengths(self):
        for count in (41, 42, 200):
            library = some_library()
            self.check_refused(library, BadBook, library.come, "new", 5, words_from(0, count - 1))
        for count in (0, 1, 39, 40):
            self.check_comes(some_library(), "new", 5, words_from(0, count - 1))

    def test_words_at_every_place(self):
        for text in ("", "A", "two words", "abcdefghijklm", "a1", "'"):
            for place in (0, 1, 20, 39):
                words = words_from(0, 39)
                words[place] = text
                library = some_library()
                self.check_refused(library, BadWord, library.come, "new", 5, words)
            self.assertIs(refusal_of(Library(TERMS).come, "new", 5, [text]), BadWord)
        self.check_comes(some_library(), "new", 5, ["abcdefghijkl", "a", "a"])

    def test_a_name_that_is_taken(self):
        for name in ("gen", "psalm", "acts"):
            library = some_library()
            self.check_refused(library, NameTaken, library.come, name, 5, ["a"])
            self.check_refused(library, NameTaken, library.come, name, 1, library.words_in(name))
        self.check_comes(some_library(), "gone", 5, ["a"])
        self.check_comes(some_library(), "ge", 5, ["a"])
        self.check_comes(some_library(), "gena", 5, ["a"])

    def test_twelve_books_and_a_thirteenth(self):
        library = Library(TERMS)
        for number in range(12):
            self.assertEqual(len(library.books()), number)
            library.come(word_of(number), number, [])
        self.check_refused(library, Full, library.come, "new", 5, ["a"])
        self.check_refused(library, Full, library.come, "new", 5, [])
        library.leave(word_of(7))
        self.check_comes(library, "new", 5, ["a"])
        self.check_refused(library, Full, library.come, word_of(7), 5, ["a"])

    def test_more_than_twelve_comings(self):
        library = Library(TERMS)
        for number in range(30):
            library.come("gen", 5, ["a"])
            library.leave("gen")
        self.assertEqual(library.books(), [])

    def test_twenty_findings_and_twenty_one(self):
        library = Library(SINGLE)
        library.come("old", 1, words_from(0, 19))
        self.assertEqual(library.come("new", 2, words_from(0, 19)[::-1]), list(range(1, 21)))
        self.assertEqual(library.found(), 20)
        library = Library(SINGLE)
        library.come("old", 1, words_from(0, 20))
        self.check_refused(library, TooMany, library.come, "new", 2, words_from(0, 20)[::-1])
        self.check_refused(library, TooMany, library.come, "new", 0, words_from(0, 20)[::-1])

    def test_twenty_with_each_of_two_books(self):
        library = Library(SINGLE)
        library.come("old", 1, words_from(0, 19))
        library.come("also", 1, words_from(20, 39))
        told = library.come("new", 2, words_from(0, 39)[::-1])
        self.assertEqual(told, list(range(1, 41)))

    def test_too_many_with_a_book_that_is_compared_late(self):
        for late_year in (3, 9):
            library = Library(SINGLE)
            library.come("first", 1, words_from(0, 1))
            library.come("second", 2, words_from(1, 2))
            library.come("late", late_year, words_from(20, 40))
            library.come("latest", 10, words_from(0, 2))
            words = words_from(0, 2) + words_from(20, 40)[::-1]
            before = library.found()
            self.check_refused(library, TooMany, library.come, "new", 5, words)
            self.assertEqual(library.books(), ["first", "second", "late", "latest"])
            # What comes next gets the numbers that the refused book did not use up.
            self.assertEqual(library.come("new", 5, words_from(0, 1)), [before + 1, before + 2, before + 3])

    def test_too_many_only_while_the_other_book_is_there(self):
        library = Library(SINGLE)
        library.come("old", 1, words_from(0, 20))
        self.check_refused(library, TooMany, library.come, "new", 2, words_from(0, 20)[::-1])
        library.leave("old")
        self.assertEqual(library.come("new", 2, words_from(0, 20)[::-1]), [])


class OrderOfRefusals(LibraryTest):
    """Point 18 where several refusals are due at one call."""

    ORDER = [BadName, BadYear, BadBook, BadWord, NameTaken, Full, TooMany]

    def come_with(self, faults):
        """A library and a call that has just these faults."""
        library = Library(SINGLE)
        library.come("old", 1, words_from(0, 20))
        if Full in faults:
            for number in range(11):
                library.come(word_of(number), 2, [])
        name = "Old" if BadName in faults else "old" if NameTaken in faults else "new"
        year = 10000 if BadYear in faults else 1
        words = words_from(0, 20)[::-1] if TooMany in faults else ["a"]
        if BadBook in faults:
            words = words + ["b"] * (41 - len(words))
        if BadWord in faults:
            words[-1] = "B"
        return library, (name, year, words)

    def test_every_two_and_more(self):
        tried = 0
        for count in range(1, 8):
            for faults in itertools.combinations(self.ORDER, count):
                # A name that is taken is a word.
                if BadName in faults and NameTaken in faults:
                    continue
                library, told = self.come_with(faults)
                with self.subTest(faults=[fault.__name__ for fault in faults]):
                    self.check_refused(library, faults[0], library.come, *told)
                    tried += 1
        self.assertEqual(tried, 2 ** 7 - 1 - 2 ** 5)

    def test_none(self):
        library, told = self.come_with([])
        self.assertEqual(library.come(*told), [])

    def test_bad_book_ahead_of_bad_word_wherever_it_stands(self):
        for place in (0, 20, 40):
            words = words_from(0, 40)
            words[place] = "B"
            library = some_library()
            self.check_refused(library, BadBook, library.come, "new", 5, words)


class OfTwoBooksTheOlder(LibraryTest):
    """Point 19."""

    def check_order(self, comings):
        due = sorted(comings, key=lambda one: (one[1], one[0]))
        for order in itertools.permutations(comings):
            library = Library(SINGLE)
            for name, year in order:
                library.come(name, year, ["a", "b"])
            self.assertEqual(library.books(), [name for name, year in due])
            for number in range(1, library.found() + 1):
                entry = library.entry(number)
                self.assertLess(library.books().index(entry.older), library.books().index(entry.newer))

    def test_by_year(self):
        self.check_order([("zeta", 0), ("mu", 5), ("alpha", 9999)])

    def test_years_as_numbers(self):
        self.check_order([("a", 9), ("b", 10), ("c", 100), ("d", 2)])

    def test_the_same_year_by_name(self):
        self.check_order([("gen", 5), ("acts", 5), ("ruth", 5)])

    def test_names_of_which_one_is_the_beginning_of_another(self):
        self.check_order([("gen", 5), ("genesis", 5), ("ge", 5), ("genb", 5)])

    def test_both(self):
        self.check_order([("b", 5), ("a", 6), ("ab", 5), ("aa", 6)])


class Comings(LibraryTest):
    """Point 20."""

    def test_every_field(self):
        library = library_of(TERMS, ("gen", 1, "lo thou art the man"))
        self.assertEqual(library.come("psalm", 2, "so you the man".split()), [1])
        self.assertEqual(entry_fields(library.entry(1)), {
            "number": 1, "older": "gen", "newer": "psalm", "worth": 24, "way": [(1, 1), (3, 2), (4, 3)],
            "row": [6, 14, 24], "pairs": [(1, 1), (3, 2), (4, 3)], "left": False,
        })
        entry = library.entry(1)
        self.assertIs(type(entry), Entry)
        self.assertIs(entry.left, False)
        self.assertEqual((type(entry.number), type(entry.worth)), (int, int))
        self.assertEqual((type(entry.older), type(entry.newer)), (str, str))
        self.assertEqual((type(entry.way), type(entry.row), type(entry.pairs)), (list, list, list))
        self.assertEqual({type(pair) for pair in entry.way + entry.pairs}, {tuple})

    def test_pairs_beyond_the_way(self):
        library = library_of(Terms(10, 0, 0, 20), ("gen", 1, "a b"), ("psalm", 2, "a b a b"))
        entry = library.entry(1)
        self.assertEqual(entry.pairs, [(0, 0), (0, 2), (1, 1), (1, 3)])
        self.assertIn(entry.way, [[(0, 0), (1, 1)], [(0, 0), (1, 3)], [(0, 2), (1, 3)]])
        self.assertEqual(entry.row, [10, 20])

    def test_a_book_that_is_older_than_all_that_are_there(self):
        library = library_of(TERMS, ("psalm", 5, "so you the man"), ("acts", 7, "has you x y the man"))
        self.assertEqual(library.found(), 1)
        self.assertEqual(library.come("gen", 1, "lo thou art the man".split()), [2, 3])
        one = library.entry(2)
        self.assertEqual((one.older, one.newer, one.worth, one.way), ("gen", "psalm", 24, [(1, 1), (3, 2), (4, 3)]))
        other = library.entry(3)
        self.assertEqual((other.older, other.newer, other.worth), ("gen", "acts", 20))

    def test_near_forms_and_prices_go_by_age_not_by_coming(self):
        for order in itertools.permutations([("old", 1, "thou hath a x b"), ("new", 2, "you has a b")]):
            library = library_of(TERMS, *order)
            self.assertEqual((library.entry(1).worth, library.entry(1).older), (6 + 9 + 20 - 2, "old"))
        for order in itertools.permutations([("new", 2, "thou hath a x b"), ("old", 1, "you has a b")]):
            library = library_of(Terms(10, 2, 3, 17, near=TERMS.near), *order)
            self.assertEqual((library.entry(1).worth, library.entry(1).pairs), (20 - 3, [(2, 2), (3, 4)]))
            self.assertEqual(library.found(), 1)

    def test_a_book_between_those_that_are_there(self):
        terms = Terms(10, 2, 3, 15, near=TERMS.near)
        library = library_of(terms, ("gen", 1, "thou hath"), ("acts", 9, "you has"))
        self.assertEqual(library.come("psalm", 5, ["you", "has"]), [2, 3])
        self.assertEqual([(library.entry(number).older, library.entry(number).newer) for number in (1, 2, 3)],
                         [("gen", "acts"), ("gen", "psalm"), ("psalm", "acts")])
        self.assertEqual([library.entry(number).worth for number in (1, 2, 3)], [15, 15, 20])

    def test_the_oldest_first_then_as_compare_lists_them(self):
        library = library_of(
            SINGLE, ("third", 9, "c x d"), ("first", 2, "a x b"), ("second", 5, "x d c a"), ("last", 9, "c d"),
        )
        before = library.found()
        told = library.come("new", 7, "d c a b".split())
        made = [library.entry(number) for number in told]
        self.assertEqual(told, list(range(before + 1, before + 1 + len(told))))
        self.assertEqual([(entry.older, entry.newer, entry.worth, entry.pairs[0]) for entry in made], [
            ("first", "new", 10, (0, 2)), ("first", "new", 10, (2, 3)),
            ("second", "new", 30, (1, 0)),
            ("new", "last", 10, (0, 1)), ("new", "last", 10, (1, 0)),
            ("new", "third", 10, (0, 2)), ("new", "third", 10, (1, 0)),
        ])

    def test_none(self):
        library = Library(TERMS)
        self.assertEqual(library.come("gen", 1, "lo thou art the man".split()), [])
        self.assertEqual(library.come("psalm", 2, []), [])
        self.assertEqual(library.come("acts", 3, ["nothing", "alike"]), [])
        self.assertEqual(library.found(), 0)

    def test_books_alike(self):
        library = library_of(TERMS, ("gen", 1, "a b c"), ("psalm", 1, "a b c"))
        self.assertEqual((library.entry(1).older, library.entry(1).worth), ("gen", 30))

    def test_against_the_document_one_by_one(self):
        numbers = Numbers(21)
        for count in range(25):
            terms = Terms(5, numbers.below(4), numbers.below(4), 8, near=[("a", "b", 2), ("c", "a", 6)])
            library = Library(terms)
            account = Account(terms)
            for name in ("gen", "psalm", "acts", "ruth"):
                year = numbers.below(3)
                words = numbers.book("abcdefghij", numbers.below(13))
                self.assertEqual(refusal_of(library.come, name, year, words),
                                 refusal_of(account.come, name, year, words))
            self.check_entries(library, account)

    def check_entries(self, library, account):
        self.assertEqual(library.found(), len(account.entries))
        for due in account.entries:
            entry = library.entry(due.number)
            self.assertEqual(
                (entry.number, entry.older, entry.newer, entry.worth, entry.pairs, entry.left),
                (due.number, due.older, due.newer, due.worth, due.pairs, due.left))
            self.assertTrue(account.is_way(due.number, entry.way))
            self.assertEqual(entry.row, [due.ending[pair] for pair in entry.way])


class Leavings(LibraryTest):
    """Point 21."""

    def setUp(self):
        self.library = library_of(
            SINGLE, ("mid", 5, "a b c"), ("old", 1, "a b x c"), ("new", 9, "a b c"), ("apart", 7, "y y"),
        )

    def lefts(self):
        return [self.library.entry(number).left for number in range(1, self.library.found() + 1)]

    def books_of(self, number):
        return (self.library.entry(number).older, self.library.entry(number).newer)

    def test_marked_in_either_part(self):
        due = [number for number in range(1, self.library.found() + 1) if "mid" in self.books_of(number)]
        parts = [self.books_of(number).index("mid") for number in due]
        self.assertEqual(sorted(set(parts)), [0, 1])
        self.assertEqual(self.lefts(), [False] * 5)
        self.assertEqual(self.library.leave("mid"), due)
        self.assertEqual(self.lefts(), [number in due for number in range(1, 6)])
        self.assertEqual({type(left) for left in self.lefts()}, {bool})

    def test_only_those_that_were_not_marked_before(self):
        self.assertEqual(self.library.leave("mid"), [1, 2, 5])
        self.assertEqual(self.library.leave("old"), [3, 4])
        self.assertEqual(self.library.leave("new"), [])
        self.assertEqual(self.lefts(), [True] * 5)

    def test_no_entry(self):
        self.assertEqual(self.library.leave("apart"), [])
        self.assertEqual(self.lefts(), [False] * 5)
        self.assertEqual(self.library.books(), ["old", "mid", "new"])

    def test_nothing_else_of_an_entry_changes_and_none_goes_away(self):
        before = [entry_fields(self.library.entry(number)) for number in range(1, 6)]
        self.library.leave("old")
        self.library.leave("mid")
        after = [entry_fields(self.library.entry(number)) for number in range(1, 6)]
        self.assertEqual(self.library.found(), 5)
        self.assertEqual([dict(fields, left=False) for fields in after], before)

    def test_the_book_is_there_no_more(self):
        self.library.leave("mid")
        self.assertEqual(self.library.books(), ["old", "apart", "new"])
        self.check_refused(self.library, NoBook, self.library.words_in, "mid")
        self.check_refused(self.library, NoBook, self.library.leave, "mid")
        self.assertEqual(self.library.search(["a"], 1), [("old", 0, 0), ("new", 0, 0)])

    def test_a_name_that_is_not_there(self):
        for name in ("nobody", "", "Old", "ol", "olda", "mid ", "a" * 1000):
            self.check_refused(self.library, NoBook, self.library.leave, name)

    def test_a_name_that_comes_again_with_other_words_and_another_year(self):
        self.library.leave("mid")
        before = [entry_fields(self.library.entry(number)) for number in range(1, 6)]
        self.assertEqual(self.library.come("mid", 0, "b c".split()), [6, 7, 8])
        self.assertEqual([entry_fields(self.library.entry(number)) for number in range(1, 6)], before)
        self.assertEqual([self.books_of(number) for number in (6, 7, 8)],
                         [("mid", "old"), ("mid", "old"), ("mid", "new")])
        self.assertEqual(self.library.books(), ["mid", "old", "apart", "new"])
        self.assertEqual(self.library.words_in("mid"), ["b", "c"])
        self.assertEqual(self.lefts(), [True, True, False, False, True, False, False, False])
        self.assertEqual(self.library.between("mid", "new"), [8])
        self.assertEqual(self.library.leave("mid"), [6, 7, 8])
        self.assertEqual(self.library.come("mid", 5, "a b c".split()), [9, 10, 11])

    def test_a_book_that_comes_again_as_it_was(self):
        words = self.library.words_in("mid")
        self.library.leave("mid")
        self.assertEqual(self.library.come("mid", 5, words), [6, 7, 8])
        self.assertEqual(self.lefts(), [True, True, False, False, True, False, False, False])

    def test_no_comparing_with_a_book_that_has_left(self):
        self.library.leave("old")
        self.library.leave("new")
        told = self.library.come("late", 20, "a b c".split())
        self.assertEqual([self.books_of(number) for number in told], [("mid", "late")])


class WhatIsTold(LibraryTest):
    """Point 22."""

    def test_words_in(self):
        library = library_of(TERMS, ("gen", 1, "a b a"), ("psalm", 2, ""))
        self.assertEqual(library.words_in("gen"), ["a", "b", "a"])
        self.assertEqual(library.words_in("psalm"), [])
        for name in ("acts", "", "Gen", "ge", "gen "):
            self.check_refused(library, NoBook, library.words_in, name)

    def test_found_counts_all_ever_made(self):
        library = some_library()
        before = library.found()
        self.assertGreater(before, len(library.listed()))
        library.leave("gen")
        self.assertEqual(library.found(), before)
        told = library.come("gen", 1, "the man that hath".split())
        self.assertEqual(library.found(), before + len(told))

    def test_numbers_of_entries(self):
        library = some_library()
        for number in range(1, library.found() + 1):
            self.assertEqual(library.entry(number).number, number)
        for number in (-FAR, -2, -1, 0, library.found() + 1, library.found() + 2, FAR):
            self.check_refused(library, NoFinding, library.entry, number)
            self.check_refused(library, NoFinding, library.follow, number)

    def test_marked_entries_are_told_but_not_listed(self):
        library = some_library()
        marked = [number for number in range(1, library.found() + 1) if library.entry(number).left]
        self.assertNotEqual(marked, [])
        for number in marked:
            self.assertIn("gone", (library.entry(number).older, library.entry(number).newer))
            self.assertNotIn(number, library.listed())
        self.assertEqual(sorted(library.listed() + marked), list(range(1, library.found() + 1)))

    def test_listed_by_falling_worth_then_by_rising_number(self):
        library = library_of(
            SINGLE, ("a", 1, "a x b"), ("b", 2, "a y b"), ("c", 3, "a b"), ("d", 4, "a b x a"),
        )
        numbers = library.listed()
        keys = [(-library.entry(number).worth, number) for number in numbers]
        self.assertEqual(keys, sorted(keys))
        self.assertEqual(sorted(numbers), list(range(1, library.found() + 1)))
        worths = [library.entry(number).worth for number in numbers]
        self.assertGreater(len(set(worths)), 1)
        self.assertLess(len(set(worths)), len(worths))
        self.assertNotEqual(numbers, sorted(numbers))

    def test_listed_with_ten_and_more(self):
        library = library_of(SINGLE, ("old", 1, " ".join(words_from(0, 13))),
                             ("new", 2, " ".join(words_from(0, 13)[::-1])))
        self.assertEqual(library.listed(), list(range(1, 15)))
        self.assertEqual(library.between("old", "new"), list(range(1, 15)))

    def test_between(self):
        library = library_of(
            SINGLE, ("old", 1, "a b x c"), ("mid", 5, "c a b"), ("new", 9, "x b c"), ("apart", 7, "y"),
        )
        for name, other in itertools.product(library.books(), repeat=2):
            due = [number for number in library.listed()
                   if {library.entry(number).older, library.entry(number).newer} == {name, other}]
            self.assertEqual(library.between(name, other), due)
            self.assertEqual(library.between(other, name), due)
        self.assertEqual([library.entry(number).worth for number in library.between("mid", "old")], [20, 10])
        self.assertEqual(library.between("old", "old"), [])
        self.assertEqual(library.between("apart", "old"), [])

    def test_between_by_falling_worth(self):
        library = library_of(SINGLE, ("old", 1, "a x b c"), ("new", 9, "b c y a"))
        self.assertEqual([library.entry(number).worth for number in library.between("old", "new")], [20, 10])

    def test_between_with_a_name_that_is_not_there(self):
        library = some_library()
        for name in ("nobody", "gone", "", "Gen"):
            self.check_refused(library, NoBook, library.between, name, "gen")
            self.check_refused(library, NoBook, library.between, "gen", name)
            self.check_refused(library, NoBook, library.between, name, name)
        self.check_refused(library, NoBook, library.between, "nobody", "gone")

    def test_between_when_one_has_come_again(self):
        library = some_library()
        library.come("gone", 3, "lo thou art the man of the house".split())
        for name in ("gen", "psalm", "acts"):
            for number in library.between(name, "gone"):
                self.assertIs(library.entry(number).left, False)
        self.assertNotEqual(library.between("gone", "gen"), [])


class Searches(LibraryTest):
    """Point 27."""

    def setUp(self):
        self.library = some_library()

    def test_the_oldest_book_first(self):
        self.assertEqual(self.library.search(["man", "ear"], 40),
                         [("gen", 4, 8), ("psalm", 3, 7), ("psalm", 7, 12), ("acts", 3, 7)])
        self.assertEqual(self.library.search(["ear", "man"], 5),
                         [("gen", 4, 8), ("psalm", 3, 7), ("acts", 3, 7)])
        self.assertEqual(self.library.search(["ear", "man"], 4), [])

    def test_near_forms_in_either_order(self):
        self.assertEqual(self.library.search(["hath"], 1), [("gen", 6, 6), ("psalm", 5, 5), ("acts", 5, 5)])
        self.assertEqual(self.library.search(["has"], 1), [("gen", 6, 6), ("psalm", 5, 5), ("acts", 5, 5)])

    def test_a_book_that_has_left(self):
        self.assertEqual(self.library.search(["house"], 40), [])
        self.library.leave("psalm")
        self.assertEqual(self.library.search(["hath"], 1), [("gen", 6, 6), ("acts", 5, 5)])
        self.library.come("psalm", 9, ["has"])
        self.assertEqual(self.library.search(["hath"], 1), [("gen", 6, 6), ("acts", 5, 5), ("psalm", 0, 0)])

    def test_how_many_told_words(self):
        self.check_refused(self.library, BadSearch, self.library.search, [], 5)
        for count in (1, 6):
            self.assertEqual(self.library.search(words_from(0, count - 1), 5), [])
        for count in (7, 8, 200):
            self.check_refused(self.library, BadSearch, self.library.search, words_from(0, count - 1), 5)

    def test_six_told_words(self):
        told = ["you", "art", "the", "man", "ear", "that"]
        self.assertEqual(self.library.search(told, 40), [("gen", 1, 8), ("psalm", 3, 10), ("psalm", 4, 12)])

    def test_a_text_told_twice(self):
        for told in (["the", "the"], ["the", "man", "the"], ["The", "The"], ["", ""], ["a", "b", "c", "d", "e", "a"]):
            self.check_refused(self.library, BadSearch, self.library.search, told, 5)
        self.assertEqual(self.library.search(["hath", "has"], 1), self.library.search(["has"], 1))

    def test_within(self):
        for within in (-FAR, -1, 0, 41, 42, FAR):
            self.check_refused(self.library, BadSearch, self.library.search, ["the"], within)
        for within in (1, 2, 39, 40):
            self.assertEqual(len(self.library.search(["the"], within)), 6)

    def test_no_words(self):
        for text in ("", "The", "the man", "abcdefghijklm", "a1"):
            for told in ([text], ["the", text], [text, "the"], words_from(0, 4) + [text]):
                self.check_refused(self.library, BadWord, self.library.search, told, 5)

    def test_bad_search_ahead_of_bad_word(self):
        self.check_refused(self.library, BadSearch, self.library.search, ["The"], 0)
        self.check_refused(self.library, BadSearch, self.library.search, ["The"], 41)
        self.check_refused(self.library, BadSearch, self.library.search, ["The", "The"], 5)
        self.check_refused(self.library, BadSearch, self.library.search, ["The", "man", "man"], 5)
        self.check_refused(self.library, BadSearch, self.library.search, ["The"] + words_from(0, 5), 5)

    def test_refused_without_books_too(self):
        library = Library(TERMS)
        self.assertIs(refusal_of(library.search, [], 5), BadSearch)
        self.assertIs(refusal_of(library.search, ["The"], 5), BadWord)

    def test_against_the_document_one_by_one(self):
        numbers = Numbers(22)
        terms = Terms(10, 2, 3, 999, near=[("a", "b", 2), ("c", "a", 6)])
        library = Library(terms)
        account = Account(terms)
        for name in ("gen", "psalm", "acts", "ruth"):
            year = numbers.below(3)
            words = numbers.book("abcdefg", numbers.below(16))
            library.come(name, year, words)
            account.come(name, year, words)
        for count in range(60):
            told = sorted(set(numbers.book("abcdefg", 1 + numbers.below(4))))
            within = 1 + numbers.below(10)
            self.assertEqual(library.search(told, within), account.search(told, within))


class NothingIsShared(LibraryTest):
    """Point 2."""

    def test_lists_handed_in_stay_as_they_were(self):
        library = some_library()
        words = ["the", "man", "has"]
        told = ["man", "has"]
        library.come("new", 5, words)
        library.search(told, 5)
        self.assertEqual((words, told), (["the", "man", "has"], ["man", "has"]))

    def test_a_later_change_of_the_words_handed_in(self):
        library = Library(TERMS)
        words = ["the", "man", "has"]
        library.come("gen", 5, words)
        words[0] = "a"
        words.append("b")
        self.assertEqual(library.words_in("gen"), ["the", "man", "has"])
        words.clear()
        library.come("psalm", 6, ["the", "man"])
        self.assertEqual(library.entry(1).worth, 20)
        self.assertEqual(library.search(["has"], 1), [("gen", 2, 2)])

    def test_one_list_handed_in_for_two_books(self):
        library = Library(TERMS)
        words = ["the", "man"]
        library.come("gen", 5, words)
        words.append("has")
        library.come("psalm", 6, words)
        self.assertEqual(library.words_in("gen"), ["the", "man"])
        self.assertEqual(library.words_in("psalm"), ["the", "man", "has"])

    def test_lists_that_are_told_are_made_anew(self):
        library = some_library()
        calls = [
            library.books, library.listed, lambda: library.words_in("gen"), lambda: library.between("gen", "psalm"),
            lambda: library.between("gen", "gen"), lambda: library.follow(library.listed()[0]),
            lambda: library.search(["the"], 1),
        ]
        before = state_of(library, SEARCHES)
        for call in calls:
            due = list(call())
            told = call()
            told.append("more")
            told[0] = "other"
            told.reverse()
            self.assertEqual(call(), due)
        self.assertEqual(state_of(library, SEARCHES), before)

    def test_the_numbers_that_come_and_leave_tell(self):
        library = some_library()
        library.come("new", 5, "the man that has".split()).clear()
        before = state_of(library, SEARCHES)
        library.come("other", 5, []).append(77)
        library.leave("other").append(77)
        self.assertEqual(state_of(library, SEARCHES), before)

    def test_entries_that_are_told_are_made_anew(self):
        library = some_library()
        before = state_of(library, SEARCHES)
        for number in range(1, library.found() + 1):
            entry = library.entry(number)
            entry.way.append((9, 9))
            entry.pairs.clear()
            entry.row[0] = 77
            entry.left = not entry.left
            entry.worth = 1
            entry.older = "nobody"
            entry.newer = "nobody"
            entry.number = 77
            self.assertIsNot(library.entry(number), entry)
        self.assertEqual(state_of(library, SEARCHES), before)
        self.assertNotEqual(library.leave("gen"), [])

    def test_an_entry_told_before_a_book_leaves_stays_as_it_was_told(self):
        library = some_library()
        number = library.between("gen", "psalm")[0]
        entry = library.entry(number)
        library.leave("gen")
        self.assertIs(entry.left, False)
        self.assertIs(library.entry(number).left, True)

    def test_two_libraries_of_the_same_terms(self):
        one = Library(TERMS)
        other = Library(TERMS)
        words = ["the", "man"]
        one.come("gen", 1, words)
        self.assertEqual((other.books(), other.found()), ([], 0))
        other.come("gen", 2, words)
        other.come("psalm", 3, words)
        self.assertEqual((one.books(), one.found(), one.listed()), (["gen"], 0, []))
        self.assertEqual(one.come("acts", 9, words), [1])
        one.leave("gen")
        self.assertEqual((other.books(), other.listed()), (["gen", "psalm"], [1]))
        self.assertIs(other.entry(1).left, False)
        self.assertEqual(other.entry(1).newer, "psalm")

    def test_terms_stay_as_they_were(self):
        near = [("thou", "you", 4)]
        terms = Terms(10, 2, 3, 20, near=near)
        library = library_of(terms, ("gen", 1, "thou art the man"), ("psalm", 2, "you the man"))
        library.follow(1)
        library.search(["you"], 1)
        near.append(("a", "b", 1))
        self.assertEqual((terms.same, terms.out, terms.into, terms.least, terms.part, terms.near),
                         (10, 2, 3, 20, 50, [("thou", "you", 4)]))

    def test_plain_kinds(self):
        library = some_library()
        for told in (library.books(), library.words_in("gen"), library.listed(), library.between("gen", "acts"),
                     library.follow(library.listed()[0]), library.search(["the"], 1),
                     library.come("new", 5, ["the", "man"]), library.leave("new")):
            self.assertIs(type(told), list)
        self.assertIs(type(library.found()), int)
        for stretch in library.search(["the"], 1):
            self.assertIs(type(stretch), tuple)
            self.assertEqual([type(part) for part in stretch], [str, int, int])

    def test_the_arguments_bear_their_names(self):
        library = Library(terms=TERMS)
        library.come(words=["the", "man"], year=1, name="gen")
        self.assertEqual(library.come(name="psalm", year=2, words=["the", "man"]), [1])
        self.assertEqual(library.words_in(name="gen"), ["the", "man"])
        self.assertEqual(library.entry(number=1).worth, 20)
        self.assertEqual(library.between(other="psalm", name="gen"), [1])
        self.assertEqual(library.follow(number=1), [1])
        self.assertEqual(library.search(within=1, told=["man"]), [("gen", 1, 1), ("psalm", 1, 1)])
        self.assertEqual(library.leave(name="gen"), [1])
        self.assertIs(refusal_of(library.follow, number=1), HasLeft)


if __name__ == "__main__":
    unittest.main()
