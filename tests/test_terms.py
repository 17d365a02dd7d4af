"""Points 1 to 3 and 7 to 10: terms, near forms, prices."""

import unittest

from quotefind.errors import BadNear, BadTerms
from quotefind.terms import NEAR_MOST, WORTH_MOST, Terms
from tests.helper import SIGNS, near_forms, refusal_of

FAR = 10 ** 60

# For each number of the terms the two ends of its range.
RANGES = {
    "same": (1, 999999),
    "out": (0, 999999),
    "into": (0, 999999),
    "least": (1, 999999),
    "part": (1, 100),
}


def terms_with(**changed):
    told = {"same": 10, "out": 2, "into": 3, "least": 20, "part": 60, "near": [("thou", "you", 4)]}
    told.update(changed)
    return Terms(**told)


def refusal_with(**changed):
    return refusal_of(terms_with, **changed)


def refusal_of_near(*near):
    return refusal_with(near=list(near))


def fields_of(terms):
    return (terms.same, terms.out, terms.into, terms.least, terms.part, terms.near)


class Bounds(unittest.TestCase):

    def test_bounds(self):
        self.assertEqual(WORTH_MOST, 999999)
        self.assertEqual(NEAR_MOST, 60)


class Numbers(unittest.TestCase):

    def test_fields_in_the_order_of_the_arguments(self):
        terms = Terms(10, 2, 3, 20, 60, [("thou", "you", 4)])
        self.assertEqual(fields_of(terms), (10, 2, 3, 20, 60, [("thou", "you", 4)]))

    def test_arguments_by_name(self):
        terms = Terms(near=[("thou", "you", 4)], part=60, least=20, into=3, out=2, same=10)
        self.assertEqual(fields_of(terms), (10, 2, 3, 20, 60, [("thou", "you", 4)]))

    def test_part_and_near_not_told(self):
        self.assertEqual(fields_of(Terms(10, 2, 3, 20)), (10, 2, 3, 20, 50, []))
        self.assertEqual(fields_of(Terms(10, 2, 3, 20, 51)), (10, 2, 3, 20, 51, []))
        self.assertEqual(fields_of(Terms(10, 2, 3, 20, near=[("a", "b", 0)])),
                         (10, 2, 3, 20, 50, [("a", "b", 0)]))

    def test_near_told_as_none(self):
        self.assertEqual(fields_of(Terms(10, 2, 3, 20, 70, None)), (10, 2, 3, 20, 70, []))
        self.assertEqual(terms_with(near=None).near, [])

    def test_both_ends_of_each_range(self):
        for name, ends in RANGES.items():
            for number in ends:
                with self.subTest(name=name, number=number):
                    self.assertEqual(getattr(terms_with(**{name: number}), name), number)

    def test_one_beyond_each_end_and_far_beyond(self):
        for name, (low, high) in RANGES.items():
            for number in (low - 1, high + 1, -FAR, FAR):
                with self.subTest(name=name, number=number):
                    self.assertIs(refusal_with(**{name: number}), BadTerms)

    def test_all_numbers_at_the_same_end(self):
        self.assertEqual(fields_of(Terms(1, 0, 0, 1, 1)), (1, 0, 0, 1, 1, []))
        self.assertEqual(fields_of(Terms(999999, 999999, 999999, 999999, 100)),
                         (999999, 999999, 999999, 999999, 100, []))


class NearForms(unittest.TestCase):

    def test_how_many(self):
        for count in (0, 1, 59, 60):
            with self.subTest(count=count):
                self.assertEqual(terms_with(near=near_forms(count)).near, near_forms(count))
        for count in (61, 200):
            with self.subTest(count=count):
                self.assertIs(refusal_with(near=near_forms(count)), BadNear)

    def test_prices(self):
        for price in (0, 1, 999999):
            with self.subTest(price=price):
                self.assertEqual(terms_with(near=[("a", "b", price)]).near, [("a", "b", price)])
        for price in (-1, 1000000, -FAR, FAR):
            with self.subTest(price=price):
                self.assertIs(refusal_of_near(("a", "b", price)), BadNear)

    def test_no_words(self):
        for text in ("", "A", "aB", "a b", " a", "a1", "-", "abcdefghijklm", "a" * 1000):
            with self.subTest(text=text):
                self.assertIs(refusal_of_near((text, "b", 1)), BadNear)
                self.assertIs(refusal_of_near(("b", text, 1)), BadNear)
                self.assertIs(refusal_of_near((text, text, 1)), BadNear)

    def test_every_sign_that_is_no_word(self):
        for sign in SIGNS:
            due = None if sign.islower() else BadNear
            with self.subTest(sign=sign):
                self.assertIs(refusal_of_near((sign, "word", 1)), due)
                self.assertIs(refusal_of_near(("word", sign, 1)), due)

    def test_words_of_twelve_letters(self):
        near = [("abcdefghijkl", "lkjihgfedcba", 1)]
        self.assertEqual(terms_with(near=near).near, near)

    def test_a_word_near_itself(self):
        self.assertIs(refusal_of_near(("a", "a", 0)), BadNear)
        self.assertIs(refusal_of_near(("thou", "thou", 5)), BadNear)

    def test_the_same_two_words_twice(self):
        self.assertIs(refusal_of_near(("a", "b", 1), ("a", "b", 1)), BadNear)
        self.assertIs(refusal_of_near(("a", "b", 1), ("a", "b", 2)), BadNear)
        self.assertIs(refusal_of_near(("a", "b", 0), ("a", "b", 0)), BadNear)
        self.assertIs(refusal_of_near(("a", "b", 1), ("c", "d", 1), ("a", "b", 2)), BadNear)
        forms = near_forms(59)
        self.assertIs(refusal_of_near(*forms, (forms[0][0], forms[0][1], 777)), BadNear)

    def test_the_two_words_in_the_other_order(self):
        for near in ([("a", "b", 1), ("b", "a", 1)], [("a", "b", 1), ("b", "a", 2)]):
            self.assertEqual(terms_with(near=near).near, near)

    def test_one_word_in_several_near_forms(self):
        near = [("a", "b", 1), ("a", "c", 1), ("d", "b", 1), ("b", "c", 1)]
        self.assertEqual(terms_with(near=near).near, near)

    def test_words_that_read_alike_when_put_together(self):
        near = [("ab", "c", 1), ("a", "bc", 2)]
        self.assertEqual(terms_with(near=near).near, near)

    def test_a_fault_at_each_place(self):
        for fault in (("A", "b", 1), ("a", "", 1), ("a", "a", 1), ("a", "b", -1), ("aaa", "aab", 9)):
            for place in range(1, 4):
                near = near_forms(3)
                near.insert(place, fault)
                with self.subTest(fault=fault, place=place):
                    self.assertIs(refusal_with(near=near), BadNear)

    def test_bad_terms_ahead_of_bad_near(self):
        faults = [
            near_forms(61), [("A", "b", 1)], [("a", "", 1)], [("a", "a", 1)],
            [("a", "b", -1)], [("a", "b", 1000000)], [("a", "b", 1), ("a", "b", 1)],
        ]
        for name, (low, high) in RANGES.items():
            for number in (low - 1, high + 1):
                for near in faults:
                    with self.subTest(name=name, number=number, near=near[:2]):
                        self.assertIs(refusal_with(**{name: number, "near": near}), BadTerms)

    def test_the_order_told_as_tuples(self):
        near = [("z", "a", 3), ("a", "z", 1), ("m", "n", 2), ("b", "c", 0)]
        kept = Terms(10, 2, 3, 20, near=near).near
        self.assertEqual(kept, [("z", "a", 3), ("a", "z", 1), ("m", "n", 2), ("b", "c", 0)])
        self.assertIs(type(kept), list)
        for form in kept:
            self.assertIs(type(form), tuple)


class PairWorth(unittest.TestCase):

    def setUp(self):
        self.terms = Terms(10, 2, 3, 20, near=[
            ("thou", "you", 4), ("hath", "has", 0), ("ye", "you", 10), ("unto", "to", 25),
            ("ay", "yes", 1), ("yes", "ay", 7), ("far", "off", 999999),
        ])

    def test_equal_words(self):
        self.assertEqual(self.terms.pair_worth("word", "word"), 10)
        self.assertEqual(self.terms.pair_worth("thou", "thou"), 10)
        self.assertEqual(self.terms.pair_worth("you", "you"), 10)

    def test_a_near_form_in_its_order(self):
        self.assertEqual(self.terms.pair_worth("thou", "you"), 6)

    def test_a_near_form_without_a_price(self):
        self.assertEqual(self.terms.pair_worth("hath", "has"), 10)

    def test_a_worth_of_nought(self):
        worth = self.terms.pair_worth("ye", "you")
        self.assertEqual(worth, 0)
        self.assertIs(type(worth), int)

    def test_a_worth_below_nought(self):
        self.assertEqual(self.terms.pair_worth("unto", "to"), -15)
        self.assertEqual(self.terms.pair_worth("far", "off"), -999989)

    def test_the_other_order(self):
        for x, y in (("you", "thou"), ("has", "hath"), ("you", "ye"), ("to", "unto")):
            with self.subTest(x=x, y=y):
                self.assertIsNone(self.terms.pair_worth(x, y))

    def test_both_orders_told(self):
        self.assertEqual(self.terms.pair_worth("ay", "yes"), 9)
        self.assertEqual(self.terms.pair_worth("yes", "ay"), 3)

    def test_other_words(self):
        for x, y in (("word", "other"), ("thou", "has"), ("thou", "ye"), ("a", "b"), ("thou", "word")):
            with self.subTest(x=x, y=y):
                self.assertIsNone(self.terms.pair_worth(x, y))

    def test_without_near_forms(self):
        terms = Terms(7, 0, 0, 1)
        self.assertEqual(terms.pair_worth("a", "a"), 7)
        self.assertIsNone(terms.pair_worth("a", "b"))

    def test_every_one_of_sixty_near_forms(self):
        terms = Terms(1000, 0, 0, 1, near=near_forms(60))
        for x, y, price in near_forms(60):
            self.assertEqual(terms.pair_worth(x, y), 1000 - price)

    def test_the_arguments_bear_their_names(self):
        self.assertEqual(self.terms.pair_worth(y="you", x="thou"), 6)


class Turned(unittest.TestCase):

    def setUp(self):
        self.near = [("thou", "you", 4), ("hath", "has", 0), ("ay", "yes", 1), ("yes", "ay", 7)]
        self.turned_near = [("you", "thou", 4), ("has", "hath", 0), ("yes", "ay", 1), ("ay", "yes", 7)]
        self.terms = Terms(10, 2, 3, 20, 60, self.near)

    def test_what_is_exchanged_and_what_is_kept(self):
        turned = self.terms.turned()
        self.assertIs(type(turned), Terms)
        self.assertEqual(fields_of(turned), (10, 3, 2, 20, 60, self.turned_near))
        for form in turned.near:
            self.assertIs(type(form), tuple)

    def test_pairs_are_worth_the_same_from_the_other_side(self):
        turned = self.terms.turned()
        words = ["thou", "you", "hath", "has", "ay", "yes", "word"]
        for x in words:
            for y in words:
                with self.subTest(x=x, y=y):
                    self.assertEqual(turned.pair_worth(y, x), self.terms.pair_worth(x, y))

    def test_the_terms_that_were_turned_stay_as_they_were(self):
        self.terms.turned()
        self.assertEqual(fields_of(self.terms), (10, 2, 3, 20, 60, self.near))
        self.assertEqual(self.terms.pair_worth("thou", "you"), 6)
        self.assertIsNone(self.terms.pair_worth("you", "thou"))

    def test_turned_twice(self):
        self.assertEqual(fields_of(self.terms.turned().turned()), fields_of(self.terms))

    def test_the_ends_of_the_ranges(self):
        self.assertEqual(fields_of(Terms(1, 0, 999999, 1, 100).turned()), (1, 999999, 0, 1, 100, []))
        self.assertEqual(fields_of(Terms(999999, 999999, 0, 999999, 1).turned()),
                         (999999, 0, 999999, 999999, 1, []))

    def test_sixty_near_forms(self):
        turned = Terms(10, 2, 3, 20, near=near_forms(60)).turned()
        self.assertEqual(turned.near, [(y, x, price) for x, y, price in near_forms(60)])

    def test_what_is_told_is_made_anew(self):
        turned = self.terms.turned()
        self.assertIsNot(turned, self.terms.turned())
        turned.near.append(("a", "b", 1))
        turned.out = 77
        self.assertEqual(fields_of(self.terms.turned()), (10, 3, 2, 20, 60, self.turned_near))
        self.assertEqual(fields_of(self.terms), (10, 2, 3, 20, 60, self.near))

    def test_nothing_is_shared_without_near_forms(self):
        terms = Terms(10, 2, 3, 20)
        terms.turned().near.append(("a", "b", 1))
        self.assertEqual(terms.near, [])
        self.assertEqual(terms.turned().near, [])


class NothingHandedInIsKeptOrChanged(unittest.TestCase):

    def test_the_near_forms_handed_in_stay_as_they_were(self):
        near = [("z", "a", 3), ("a", "z", 1)]
        terms = Terms(10, 2, 3, 20, near=near)
        terms.pair_worth("z", "a")
        terms.turned()
        self.assertEqual(near, [("z", "a", 3), ("a", "z", 1)])

    def test_refused_near_forms_stay_as_they_were(self):
        near = [("z", "a", 3), ("a", "z", 1), ("z", "a", 4)]
        self.assertIs(refusal_of_near(*near), BadNear)
        self.assertIs(refusal_of(Terms, 10, 2, 3, 20, 50, near), BadNear)
        self.assertIs(refusal_of(Terms, 0, 2, 3, 20, 50, near), BadTerms)
        self.assertEqual(near, [("z", "a", 3), ("a", "z", 1), ("z", "a", 4)])

    def test_a_later_change_of_the_list_changes_nothing_that_is_kept(self):
        near = [("thou", "you", 4), ("hath", "has", 0)]
        terms = Terms(10, 2, 3, 20, near=near)
        near[0] = ("thou", "you", 9)
        near.append(("a", "b", 1))
        self.assertEqual(terms.near, [("thou", "you", 4), ("hath", "has", 0)])
        near.clear()
        self.assertEqual(terms.near, [("thou", "you", 4), ("hath", "has", 0)])
        self.assertEqual(terms.pair_worth("thou", "you"), 6)
        self.assertIsNone(terms.pair_worth("a", "b"))
        self.assertEqual(terms.turned().near, [("you", "thou", 4), ("has", "hath", 0)])

    def test_an_empty_list_that_grows_later(self):
        near = []
        terms = Terms(10, 2, 3, 20, near=near)
        near.append(("a", "b", 1))
        self.assertEqual(terms.near, [])
        self.assertIsNone(terms.pair_worth("a", "b"))

    def test_two_terms_share_nothing(self):
        near = [("a", "b", 1)]
        one = Terms(10, 2, 3, 20, near=near)
        other = Terms(10, 2, 3, 20, near=near)
        one.near.append(("c", "d", 1))
        self.assertEqual(other.near, [("a", "b", 1)])
        bare = Terms(10, 2, 3, 20)
        bare.near.append(("c", "d", 1))
        self.assertEqual(Terms(10, 2, 3, 20).near, [])


if __name__ == "__main__":
    unittest.main()
