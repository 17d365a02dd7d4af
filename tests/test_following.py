"""Points 23 and 24: passages followed to the oldest book; points 2 and 3 for `follow`."""

import unittest

from quotefind.errors import HasLeft, NoFinding
from quotefind.library import Library
from quotefind.terms import Terms
from tests.helper import Account, Numbers, refusal_of, state_of, words_from

FAR = 10 ** 60
# So dear that no way goes over a gap.
DEAR = 999999


def plain_terms(part, least=10, near=None):
    return Terms(10, DEAR, DEAR, least, part, near)


def library_of(terms, *books):
    library = Library(terms)
    for name, year, words in books:
        library.come(name, year, words)
    return library


def only(library, name, other):
    """The number of the one entry between two books."""
    numbers = library.between(name, other)
    if len(numbers) != 1:
        raise AssertionError(f"{name} and {other} have the entries {numbers}")
    return numbers[0]


def pad(words, count, sign):
    """The words behind so many words that stand nowhere else."""
    return [sign] * count + words


class SharedPlaces(unittest.TestCase):
    """Three books: the middle one has a passage of the old one and, at other places, one of the new one."""

    def followed(self, part, of_old, of_new):
        """Whether the passage that the middle and the new book have in common is followed to the old one."""
        library = library_of(
            plain_terms(part),
            ("mid", 5, words_from(0, 39)),
            ("old", 1, words_from(*of_old)),
            ("new", 9, words_from(*of_new)),
        )
        start = only(library, "mid", "new")
        told = library.follow(start)
        if told == [start]:
            return False
        self.assertEqual(told, [start, only(library, "old", "mid")])
        return True

    def check_edge(self, part, length, enough):
        """So many of a stretch's places are just enough, one less is too few."""
        low = 40 - length
        self.assertIs(self.followed(part, (0, low + enough - 1), (low, 39)), True)
        self.assertIs(self.followed(part, (low, low + enough - 1), (low, 39)), True)
        self.assertIs(self.followed(part, (40 - enough, 39), (low, 39)), True)
        if enough > 1:
            self.assertIs(self.followed(part, (0, low + enough - 2), (low, 39)), False)
            self.assertIs(self.followed(part, (low, low + enough - 2), (low, 39)), False)
            self.assertIs(self.followed(part, (41 - enough, 39), (low, 39)), False)
        elif low > 0:
            self.assertIs(self.followed(part, (0, low - 1), (low, 39)), False)

    def test_part_of_one(self):
        for length in (1, 2, 20, 39, 40):
            self.check_edge(1, length, 1)

    def test_part_of_fifty(self):
        for length, enough in ((1, 1), (2, 1), (3, 2), (20, 10), (39, 20)):
            self.check_edge(50, length, enough)

    def test_part_of_fifty_one(self):
        for length, enough in ((1, 1), (2, 2), (3, 2), (20, 11), (39, 20)):
            self.check_edge(51, length, enough)

    def test_part_of_sixty_seven(self):
        for length, enough in ((1, 1), (3, 3), (6, 5), (9, 7), (30, 21), (39, 27)):
            self.check_edge(67, length, enough)

    def test_part_of_sixty_six(self):
        for length, enough in ((3, 2), (6, 4), (39, 26)):
            self.check_edge(66, length, enough)

    def test_part_of_a_hundred(self):
        for length in (1, 2, 20, 39):
            self.check_edge(100, length, length)

    def test_part_not_told_is_fifty(self):
        for shared, due in ((4, False), (5, True)):
            library = library_of(
                Terms(10, DEAR, DEAR, 10), ("mid", 5, words_from(0, 9)), ("old", 1, words_from(0, shared - 1)),
                ("new", 9, words_from(0, 9)),
            )
            self.assertIs(len(library.follow(only(library, "mid", "new"))) == 2, due)

    def test_stretches_that_lie_apart(self):
        for part in (1, 100):
            self.assertIs(self.followed(part, (0, 4), (5, 9)), False)
            self.assertIs(self.followed(part, (5, 9), (0, 4)), False)
            self.assertIs(self.followed(part, (0, 4), (30, 39)), False)
            self.assertIs(self.followed(part, (30, 39), (0, 4)), False)

    def test_the_share_is_one_of_the_stretch_that_is_followed(self):
        # Two places of a long stretch against the whole of a short one.
        self.assertIs(self.followed(100, (0, 39), (10, 11)), True)
        self.assertIs(self.followed(100, (10, 11), (0, 38)), False)
        self.assertIs(self.followed(6, (10, 11), (0, 38)), False)
        self.assertIs(self.followed(5, (10, 11), (0, 38)), True)

    def test_each_stretch_in_the_middle_book_not_in_the_other(self):
        # In the old and in the new book the passages stand at quite other places.
        for ahead in (0, 10, 25):
            library = library_of(
                plain_terms(100),
                ("mid", 5, pad(words_from(0, 9), 20, "z")),
                ("old", 1, pad(words_from(0, 9), ahead, "x")),
                ("new", 9, pad(words_from(0, 9), 30 - ahead, "y")),
            )
            start = only(library, "mid", "new")
            self.assertEqual(library.follow(start), [start, only(library, "old", "mid")])


class WholeStretches(unittest.TestCase):

    def test_places_between_the_pairs_belong_to_the_stretch(self):
        # What is followed goes over a gap in the middle book; what goes on has the places of the gap alone.
        terms = Terms(10, 1, 1, 15, 50)
        library = library_of(
            terms, ("mid", 5, "a b p q r s c d".split()), ("old", 1, "p q r s".split()),
            ("new", 9, "a b c d".split()),
        )
        start = only(library, "mid", "new")
        self.assertEqual(library.entry(start).pairs, [(0, 0), (1, 1), (6, 2), (7, 3)])
        self.assertEqual(library.follow(start), [start, only(library, "old", "mid")])

    def test_places_between_the_pairs_of_the_entry_that_goes_on(self):
        terms = Terms(10, 1, 1, 15, 100)
        library = library_of(
            terms, ("mid", 5, "a b p q r s c d".split()), ("old", 1, "a b c d".split()),
            ("new", 9, "p q r s".split()),
        )
        start = only(library, "mid", "new")
        self.assertEqual(library.follow(start), [start, only(library, "old", "mid")])

    def test_the_first_stretch_goes_over_all_pairs_not_over_one_way(self):
        # Every best way has two of the four pairs, most of them a shorter stretch than all pairs have.
        library = library_of(
            Terms(10, 1, 1, 18, 51), ("mid", 5, list("abcd")), ("new", 9, list("badc")), ("old", 1, list("bc")),
        )
        start = only(library, "mid", "new")
        self.assertEqual(library.entry(start).pairs, [(0, 1), (1, 0), (2, 3), (3, 2)])
        self.assertEqual(library.entry(only(library, "old", "mid")).pairs, [(0, 1), (1, 2)])
        self.assertEqual(library.follow(start), [start])

    def test_the_next_stretch_goes_over_all_pairs_not_over_one_way(self):
        library = library_of(
            Terms(10, 1, 1, 18, 100), ("mid", 5, list("badc")), ("new", 9, list("badc")), ("old", 1, list("abcd")),
        )
        start = only(library, "mid", "new")
        going_on = only(library, "old", "mid")
        self.assertEqual(library.entry(going_on).pairs, [(0, 1), (1, 0), (2, 3), (3, 2)])
        self.assertEqual(library.follow(start), [start, going_on])

    def test_the_least_j_and_the_greatest_are_not_those_of_the_first_pair_and_the_last(self):
        # By rising i the pairs begin with j = 1 and end with j = 2, but the stretch goes from 0 to 3.
        for text in ("ba", "dc"):
            library = library_of(
                Terms(10, 1, 1, 18, 100), ("mid", 5, list("badc")), ("old", 1, list("abcd")), ("new", 9, list(text)),
            )
            start = only(library, "mid", "new")
            going_on = only(library, "old", "mid")
            self.assertEqual(library.entry(going_on).pairs, [(0, 1), (1, 0), (2, 3), (3, 2)])
            self.assertEqual(library.follow(start), [start, going_on])


class Chains(unittest.TestCase):

    def test_an_entry_alone(self):
        library = library_of(plain_terms(50), ("old", 1, ["a"]), ("new", 2, ["a"]))
        self.assertEqual(library.follow(1), [1])

    def test_a_chain_over_many_books(self):
        # Each book has the next form of the word alone, so that only neighbours have it in common.
        forms = words_from(0, 11)
        near = [(forms[number], forms[number + 1], 1) for number in range(11)]
        for order in (range(12), range(11, -1, -1), (5, 0, 11, 3, 8, 1, 10, 2, 9, 4, 7, 6)):
            library = Library(Terms(10, 1, 1, 9, 100, near))
            for number in order:
                library.come(forms[number], number, [forms[number]])
            self.assertEqual(library.found(), 11)
            numbers = [only(library, forms[number], forms[number + 1]) for number in range(11)]
            for place, number in enumerate(numbers):
                self.assertEqual(library.follow(number), numbers[:place + 1][::-1])

    def test_the_chain_ends_where_no_entry_goes_on(self):
        library = library_of(
            plain_terms(50), ("a", 1, ["x"]), ("b", 2, ["x", "y"]), ("c", 3, ["y", "z"]), ("d", 4, ["z"]),
        )
        for name, other in (("a", "b"), ("b", "c"), ("c", "d")):
            number = only(library, name, other)
            self.assertEqual(library.follow(number), [number])

    def test_the_oldest_book_is_reached_by_whatever_chain(self):
        library = library_of(plain_terms(50), *[(name, 5, ["a", "b"]) for name in ("e", "d", "c", "b", "a")])
        for number in library.listed():
            told = library.follow(number)
            self.assertEqual(told[0], number)
            self.assertEqual(library.entry(told[-1]).older, "a")
            for before, behind in zip(told, told[1:]):
                self.assertEqual(library.entry(before).older, library.entry(behind).newer)

    def test_where_one_chain_leads_to_an_older_book(self):
        # The whole passage is in "near", half of it in "far", which is older.
        for years in ((2, 1), (1, 2)):
            library = library_of(
                plain_terms(50), ("mid", 5, words_from(0, 9)), ("new", 9, words_from(0, 9)),
                ("near", years[0], words_from(0, 9)), ("far", years[1], words_from(0, 4)),
            )
            start = only(library, "mid", "new")
            ends = {library.entry(library.follow(start)[-1]).older}
            self.assertEqual(ends, {"far" if years == (2, 1) else "near"})

    def test_the_age_counts_by_name_in_the_same_year(self):
        for names in (("ruth", "acts"), ("acts", "ruth"), ("gen", "genesis"), ("genesis", "gen")):
            library = library_of(
                plain_terms(50), ("mid", 5, words_from(0, 9)), ("new", 9, words_from(0, 9)),
                (names[0], 1, words_from(0, 4)), (names[1], 1, words_from(5, 9)),
            )
            start = only(library, "mid", "new")
            self.assertEqual(library.follow(start), [start, only(library, min(names), "mid")])

    def test_the_oldest_book_behind_a_step_to_one_that_is_not_the_oldest_at_hand(self):
        # From "mid" one comes to "dead" (year 3), where nothing goes on, and to "way" (year 4), and by it to "end".
        library = library_of(
            plain_terms(50, least=30), ("mid", 10, words_from(0, 9)), ("new", 20, words_from(0, 9)),
            ("dead", 3, words_from(0, 5)), ("way", 4, words_from(4, 9)), ("end", 1, words_from(4, 6)),
        )
        start = only(library, "mid", "new")
        due = [start, only(library, "way", "mid"), only(library, "end", "way")]
        self.assertEqual(library.between("dead", "way"), [])
        self.assertEqual(library.between("dead", "end"), [])
        self.assertEqual(library.follow(start), due)

    def test_one_book_reached_by_two_entries_of_which_one_leads_further(self):
        library = library_of(
            plain_terms(40, least=20), ("mid", 10, words_from(0, 3)), ("new", 20, words_from(0, 3)),
            ("way", 4, words_from(0, 1) + ["x"] + words_from(2, 3) + ["y"]), ("end", 1, words_from(3, 3) + ["y"]),
        )
        start = only(library, "mid", "new")
        steps = library.between("way", "mid")
        self.assertEqual([library.entry(number).pairs for number in steps], [[(0, 0), (1, 1)], [(3, 2), (4, 3)]])
        self.assertEqual(library.follow(start), [start, steps[1], only(library, "end", "way")])

    def test_against_all_chains(self):
        numbers = Numbers(31)
        lengths = []
        for count in range(60):
            near = [("a", "b", 1), ("b", "c", 2), ("d", "a", 5)]
            terms = Terms(5, numbers.below(4), numbers.below(4), 9, numbers.one_of([1, 50, 51, 67, 100]), near)
            library = Library(terms)
            account = Account(terms)
            for name in ("gen", "psalm", "acts", "ruth", "job"):
                year = numbers.below(4)
                words = numbers.book("abcdefgh", 3 + numbers.below(9))
                self.assertIs(refusal_of(library.come, name, year, words), refusal_of(account.come, name, year, words))
            for number in range(1, library.found() + 1):
                told = library.follow(number)
                self.assertTrue(account.is_chain(number, told), (number, told))
                lengths.append(len(told))
        self.assertGreater(len(set(lengths)), 2)

    def test_twelve_books_alike(self):
        words = words_from(0, 39)
        library = library_of(plain_terms(100), *[(name, 5, words) for name in words[:12]])
        self.assertEqual(library.found(), 66)
        for number in library.listed():
            self.assertEqual(library.entry(library.follow(number)[-1]).older, words[0])


class Marked(unittest.TestCase):

    def setUp(self):
        # Old and new have no word in common: one comes from the one to the other by the middle alone.
        terms = Terms(10, 1, 1, 9, 50, [("x", "y", 1), ("y", "z", 1)])
        self.library = library_of(terms, ("old", 1, ["x"]), ("mid", 5, ["y"]), ("new", 9, ["z"]))
        self.lower = only(self.library, "old", "mid")
        self.upper = only(self.library, "mid", "new")

    def test_before_a_book_leaves(self):
        self.assertEqual(self.library.follow(self.upper), [self.upper, self.lower])

    def test_no_chain_leads_over_a_marked_entry(self):
        self.library.leave("old")
        self.assertEqual(self.library.follow(self.upper), [self.upper])
        self.assertIs(refusal_of(self.library.follow, self.lower), HasLeft)

    def test_marked_by_the_newer_book(self):
        self.library.leave("new")
        self.assertEqual(self.library.follow(self.lower), [self.lower])
        self.assertIs(refusal_of(self.library.follow, self.upper), HasLeft)

    def test_marked_by_the_book_between(self):
        self.library.leave("mid")
        self.assertIs(refusal_of(self.library.follow, self.lower), HasLeft)
        self.assertIs(refusal_of(self.library.follow, self.upper), HasLeft)

    def test_a_book_that_has_come_again(self):
        self.library.leave("mid")
        self.library.come("mid", 5, ["y"])
        lower = only(self.library, "old", "mid")
        upper = only(self.library, "mid", "new")
        self.assertEqual((lower, upper), (3, 4))
        self.assertEqual(self.library.follow(upper), [upper, lower])
        self.assertIs(refusal_of(self.library.follow, self.upper), HasLeft)

    def test_an_older_coming_does_not_go_on(self):
        self.library.leave("old")
        self.library.come("old", 1, ["nothing"])
        self.assertEqual(self.library.follow(self.upper), [self.upper])
        self.library.leave("old")
        self.library.come("old", 1, ["x"])
        self.assertEqual(self.library.follow(self.upper), [self.upper, 3])

    def test_refused(self):
        self.library.leave("old")
        before = state_of(self.library, [(["x"], 1)])
        for number in (-FAR, -1, 0, 3, 4, FAR):
            self.assertIs(refusal_of(self.library.follow, number), NoFinding)
        self.assertIs(refusal_of(self.library.follow, self.lower), HasLeft)
        self.assertEqual(state_of(self.library, [(["x"], 1)]), before)

    def test_what_is_told_is_made_anew(self):
        self.library.follow(self.upper).append(77)
        told = self.library.follow(self.upper)
        told.reverse()
        self.assertEqual(self.library.follow(self.upper), [self.upper, self.lower])


if __name__ == "__main__":
    unittest.main()
