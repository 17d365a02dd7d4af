"""Points 28 and 29: rows and their answers; points 1, 2 and 5 as far as rows are read by them."""

import unittest

from quotefind.front import answers
from quotefind.terms import Terms
from tests.helper import SIGNS, words_from

# So dear that no way goes over a gap.
DEAR = 999999
TERMS = Terms(10, 2, 3, 20, near=[("thou", "you", 4)])
SINGLE = Terms(10, DEAR, DEAR, 10)
BAD_ROW = "refused: bad row"

# Two books with one entry between them.
TWO = ["come gen 1 Lo, thou art the man", "come psalm 2 So you, the man"]
TWO_ANSWERS = ["0", "1"]
# What the rows of WATCH answer shows whether a row ahead of them changed anything.
WATCH = ["books", "list", "show 1", "follow 1", "near 40 man"]


def last(rows, terms=TERMS):
    return answers(terms, rows)[-1]


def behind_two(row):
    """The answer to a row when two books have come in."""
    return last(TWO + [row])


class FrontTest(unittest.TestCase):

    def check_refused(self, rows, row, words, terms=TERMS):
        """The row is answered with that refusal; rows behind it are answered as if it had not been there."""
        told = answers(terms, rows + [row] + WATCH)
        self.assertEqual(told[len(rows)], "refused: " + words, row)
        self.assertEqual(told[:len(rows)] + told[len(rows) + 1:], answers(terms, rows + WATCH), row)


class EachKind(FrontTest):

    def test_no_rows(self):
        self.assertEqual(answers(TERMS, []), [])

    def test_a_small_day(self):
        day = [
            ("books", "-"),
            ("list", "-"),
            ("come gen 1 Lo, thou art the man", "0"),
            ("come psalm 2 So you, the man", "1"),
            ("come acts 0 The man; art!", "2"),
            ("books", "acts gen psalm"),
            ("list", "1:24 2:20 3:20"),
            ("between gen psalm", "1:24"),
            ("between psalm gen", "1:24"),
            ("between psalm acts", "3:20"),
            ("between gen gen", "-"),
            ("show 1", "gen psalm 24 stands 1:1 3:2 4:3"),
            ("show 2", "acts gen 20 stands 0:3 1:4"),
            ("follow 1", "1 2"),
            ("follow 2", "2"),
            ("near 5 you man", "gen:1-4 psalm:1-3"),
            ("near 3 you man", "psalm:1-3"),
            ("near 2 you man", "-"),
            ("leave gen", "2"),
            ("books", "acts psalm"),
            ("list", "3:20"),
            ("show 1", "gen psalm 24 left 1:1 3:2 4:3"),
            ("show 3", "acts psalm 20 stands 0:2 1:3"),
            ("follow 1", "refused: has left"),
            ("between gen psalm", "refused: no book"),
            ("come gen 3 thou art the man", "2"),
            ("list", "3:20 4:20 5:20"),
            ("show 5", "psalm gen 20 stands 2:2 3:3"),
            ("leave acts", "2"),
            ("leave psalm", "1"),
            ("leave gen", "0"),
            ("books", "-"),
            ("list", "-"),
            ("near 40 man", "-"),
        ]
        self.assertEqual(answers(TERMS, [row for row, due in day]), [due for row, due in day])

    def test_how_many_new_entries(self):
        rows = ["come old 1 " + " ".join(words_from(0, 11)), "come new 2 " + " ".join(words_from(0, 11)[::-1])]
        self.assertEqual(answers(SINGLE, rows), ["0", "12"])
        self.assertEqual(last(rows + ["leave old"], SINGLE), "12")
        self.assertEqual(last(rows + ["list"], SINGLE), " ".join(f"{number}:10" for number in range(1, 13)))
        self.assertEqual(last(rows + ["show 12"], SINGLE), "old new 10 stands 11:0")

    def test_a_chain_of_three(self):
        terms = Terms(10, 1, 1, 9, near=[("x", "y", 1), ("y", "z", 1), ("w", "x", 1)])
        rows = ["come d 4 z", "come c 3 y", "come b 2 x", "come a 1 w", "follow 1"]
        self.assertEqual(answers(terms, rows), ["0", "1", "1", "1", "1 2 3"])

    def test_several_stretches_in_one_book(self):
        self.assertEqual(last(["come b 2 a x a", "come a 2 a", "near 1 a"]), "a:0-0 b:0-0 b:2-2")

    def test_the_same_rows_twice(self):
        rows = TWO + WATCH
        self.assertEqual(answers(TERMS, rows), answers(TERMS, rows))
        self.assertEqual(answers(TERMS, ["books"]), ["-"])


class Forms(FrontTest):

    def test_other_first_parts(self):
        for row in ("", " ", "  ", "go", "comes gen 1 a", "com gen 1 a", "book", "bookss", "lists", "lis", "-",
                    "refused", "find a", "0", "1", "come,gen 1 a", "books.", "list,"):
            self.check_refused(TWO, row, "bad row")

    def test_capitals_in_the_first_part(self):
        for row in ("Come new 1 a", "COME new 1 a", "Leave gen", "Books", "bookS", "List", "LIST",
                    "Between gen psalm", "Show 1", "Follow 1", "Near 5 man"):
            self.check_refused(TWO, row, "bad row")

    def test_parts_that_lack(self):
        for row in ("come", "come ", "come new", "come new ", "leave", "leave ", "between", "between ", "between gen",
                    "between gen ", "show", "show ", "follow", "follow ", "near", "near "):
            self.check_refused(TWO, row, "bad row")

    def test_parts_that_are_too_many(self):
        for row in ("leave gen psalm", "leave gen 1", "books gen", "books 1", "list 1", "between gen psalm acts",
                    "between gen psalm 1", "show 1 1", "show 1 gen", "follow 1 1"):
            self.check_refused(TWO, row, "bad row")

    def test_blanks_ahead(self):
        for row in (" come new 1 a", " leave gen", " books", "  list", " between gen psalm", " show 1", " follow 1",
                    " near 5 man"):
            self.check_refused(TWO, row, "bad row")

    def test_blanks_behind(self):
        for row in ("leave gen ", "books ", "books  ", "list ", "between gen psalm ", "show 1 ", "follow 1 ",
                    "show 1  "):
            self.check_refused(TWO, row, "bad row")

    def test_two_blanks(self):
        for row in ("come  new 1 a", "come new  1 a", "come  new  1 a", "leave  gen", "between  gen psalm",
                    "between gen  psalm", "show  1", "follow  1", "near  5 man"):
            self.check_refused(TWO, row, "bad row")

    def test_no_blank(self):
        for row in ("leavegen", "show1", "follow1", "near5 man", "near 5man", "comenew 1 a", "come new1 a",
                    "come new 1a", "come new 1,a", "near 5,man"):
            self.check_refused(TWO, row, "bad row")

    def test_how_many_figures(self):
        for row in ("show 0000001", "follow 0000001", "near 0000005 man", "come new 0000001 a", "show 1000000",
                    "show 1234567", "come new 1234567", "near 1234567", "show " + "1" * 900):
            self.check_refused(TWO, row, "bad row")
        self.assertEqual(behind_two("show 000001"), behind_two("show 1"))
        self.assertEqual(behind_two("show 999999"), "refused: no finding")

    def test_no_figures(self):
        for part in ("+1", "-1", "1+", "1-", "1.", "1.0", "1,0", "one", "1x", "x1", "0x1", "1_0", "1e1", "'1'", "I",
                     "1:", "~", "/", ":"):
            for row in ("show " + part, "follow " + part, "near " + part + " man", "near " + part,
                        "come new " + part + " a", "come new " + part):
                self.check_refused(TWO, row, "bad row")

    def test_every_sign_as_a_number(self):
        for sign in SIGNS:
            for row in ("show " + sign, "show 1" + sign, "show " + sign + "1"):
                if sign in "0123456789":
                    self.assertNotEqual(behind_two(row), BAD_ROW, row)
                else:
                    self.assertEqual(behind_two(row), BAD_ROW, row)

    def test_numbers_with_needless_noughts(self):
        rows = ["come b 10 the man", "come a 000009 the man", "come c 00 the man", "books", "show 01", "show 000003",
                "follow 003", "near 0002 the man", "near 000001 man"]
        self.assertEqual(answers(TERMS, rows), [
            "0", "1", "2", "c a b", "a b 20 stands 0:0 1:1", "c b 20 stands 0:0 1:1",
            "3", "c:0-1 a:0-1 b:0-1", "c:1-1 a:1-1 b:1-1",
        ])

    def test_numbers_of_nought(self):
        self.assertEqual(behind_two("show 0"), "refused: no finding")
        self.assertEqual(behind_two("follow 000000"), "refused: no finding")
        self.assertEqual(behind_two("near 0 man"), "refused: bad search")
        self.assertEqual(behind_two("come new 0 man"), "0")

    def test_names_of_any_signs(self):
        for sign in SIGNS:
            if sign == " ":
                continue
            name = sign + "gen" + sign
            due = "refused: bad name" if sign not in "abcdefghijklmnopqrstuvwxyz" else "0"
            self.assertEqual(behind_two("come " + name + " 1 a"), due)
            self.assertEqual(behind_two("leave " + name), "refused: no book")
            self.assertEqual(behind_two("between gen " + name), "refused: no book")
            self.assertEqual(behind_two("between " + name + " gen"), "refused: no book")

    def test_names_that_are_like_other_parts(self):
        self.assertEqual(answers(TERMS, ["come come 1 the man", "come books 2 the man", "books", "between come books",
                                         "leave come", "come list 12", "books"]),
                         ["0", "1", "come books", "1:20", "1", "0", "books list"])


class Texts(FrontTest):

    def come_and_search(self, row):
        """The answers to a row by which a book comes in, and to searches for the words a and b in it."""
        return answers(TERMS, [row, "near 1 a", "near 1 b", "near 2 a b"])

    def test_come_without_text(self):
        for row in ("come new 1", "come new 1 ", "come new 1  ", "come new 1    ", "come new 1 12, 34!"):
            told = answers(TERMS, TWO + [row, "books", "near 1 a"])
            self.assertEqual(told, TWO_ANSWERS + ["0", "gen new psalm", "-"])

    def test_near_without_text(self):
        for row in ("near 5", "near 5 ", "near 5  ", "near 5 12", "near 0", "near 41 "):
            self.check_refused(TWO, row, "bad search")

    def test_blanks_and_signs_in_text(self):
        for text in ("a b", " a b", "a  b", "a b  ", "   a    b ", "A, B.", "a1b", "--a--b--", ",a;B"):
            self.assertEqual(self.come_and_search("come new 1 " + text), ["0", "new:0-0", "new:1-1", "new:0-1"])

    def test_every_other_sign_parts_the_words_of_a_text(self):
        for sign in SIGNS:
            if not sign.isalpha():
                for text in ("a" + sign + "b", sign + "a b" + sign):
                    told = self.come_and_search("come new 1 " + text)
                    self.assertEqual(told, ["0", "new:0-0", "new:1-1", "new:0-1"])

    def test_figures_at_the_start_of_text(self):
        self.assertEqual(self.come_and_search("come new 1 2 a b"), ["0", "new:0-0", "new:1-1", "new:0-1"])
        self.assertEqual(behind_two("near 5 2 you 3 Man"), "gen:1-4 psalm:1-3")

    def test_capitals_in_text(self):
        self.assertEqual(behind_two("near 5 YOU, Man!"), "gen:1-4 psalm:1-3")
        self.assertEqual(behind_two("near 5    you     man   "), "gen:1-4 psalm:1-3")

    def test_capitals_told_twice(self):
        self.check_refused(TWO, "near 5 man Man", "bad search")

    def test_a_row_of_a_thousand_signs(self):
        row = "come new 1 " + "." * 986 + "a b"
        self.assertEqual(len(row), 1000)
        self.assertEqual(self.come_and_search(row), ["0", "new:0-0", "new:1-1", "new:0-1"])

    def test_forty_words(self):
        words = words_from(0, 39)
        self.assertEqual(answers(TERMS, ["come new 1 " + " ".join(words), f"near 40 {words[0]} {words[39]}"]),
                         ["0", "new:0-39"])


class Refusals(FrontTest):
    """Point 29: each refusal's words."""

    def test_bad_word(self):
        self.check_refused(TWO, "come new 1 abcdefghijklm", "bad word")
        self.check_refused(TWO, "come new 1 the man abcdefghijklM", "bad word")
        self.check_refused(TWO, "near 5 abcdefghijklm", "bad word")

    def test_bad_book(self):
        self.check_refused(TWO, "come new 1 " + "a " * 41, "bad book")
        self.check_refused(TWO, "near 5 " + "a " * 41, "bad book")

    def test_bad_name(self):
        for name in ("Gen", "abcdefghijklm", "a-b", "1", "gen,"):
            self.check_refused(TWO, "come " + name + " 1 the man", "bad name")

    def test_bad_year(self):
        for year in ("10000", "999999", "010000"):
            self.check_refused(TWO, "come new " + year + " the man", "bad year")
        self.assertEqual(behind_two("come new 9999 the man"), "2")
        self.assertEqual(behind_two("come new 009999 the man"), "2")

    def test_name_taken(self):
        self.check_refused(TWO, "come gen 5 the man", "name taken")
        self.assertEqual(last(TWO + ["leave gen", "come gen 5 the man"]), "1")

    def test_full(self):
        rows = [f"come {name} 5 the man" for name in words_from(0, 11)]
        self.check_refused(rows, "come new 5 the man", "full")
        self.assertEqual(last(rows + ["leave aaa", "come new 5 the man"]), "11")

    def test_too_many(self):
        words = words_from(0, 20)
        rows = ["come gen 1 " + " ".join(words[:2]), "come old 2 " + " ".join(words)]
        self.check_refused(rows, "come new 3 " + " ".join(words[::-1]), "too many", SINGLE)
        self.assertEqual(last(rows + ["come new 3 " + " ".join(words[:20][::-1])], SINGLE), "22")

    def test_no_book(self):
        for row in ("leave nobody", "leave Gen", "leave -", "between gen nobody", "between nobody gen",
                    "between nobody nobody"):
            self.check_refused(TWO, row, "no book")
            self.check_refused([], row, "no book")

    def test_no_finding(self):
        for row in ("show 0", "show 2", "show 999999", "follow 0", "follow 2", "follow 999999"):
            self.check_refused(TWO, row, "no finding")

    def test_has_left(self):
        self.check_refused(TWO + ["leave gen"], "follow 1", "has left")
        self.check_refused(TWO + ["leave gen", "come gen 1 thou the man"], "follow 1", "has left")

    def test_bad_search(self):
        for row in ("near 0 man", "near 41 man", "near 999999 man", "near 5", "near 5 the the", "near 5 a b c d e f g"):
            self.check_refused(TWO, row, "bad search")
        self.assertEqual(behind_two("near 40 a b c d e f"), "-")
        self.assertEqual(behind_two("near 1 man"), "gen:4-4 psalm:3-3")

    def test_many_refused_rows_and_then_a_good_one(self):
        rows = ["come Gen 1 a", "books ", "show 1", "leave gen", "near 0 a", "come gen 10000 a", "come gen 5 the man",
                "come gen 5 the man", "books"]
        self.assertEqual(answers(TERMS, rows), [
            "refused: bad name", BAD_ROW, "refused: no finding", "refused: no book", "refused: bad search",
            "refused: bad year", "0", "refused: name taken", "gen",
        ])


class OrderOfRefusals(FrontTest):
    """Point 29: the form, then TEXT, then the deed."""

    LONG_RUN = "abcdefghijklm"
    MANY = "a " * 41

    def test_the_form_ahead_of_the_text(self):
        for text in (self.LONG_RUN, self.MANY):
            for row in ("come  gen 1 ", "come gen  1 ", "come gen x ", "come gen 0000001 ", "near x ", "near 0000001 "):
                self.check_refused(TWO, row + text, "bad row")

    def test_the_text_ahead_of_the_deed(self):
        for text, words in ((self.LONG_RUN, "bad word"), (self.MANY, "bad book"),
                            (self.MANY + self.LONG_RUN, "bad word")):
            for row in ("come Gen 1 ", "come new 10000 ", "come gen 1 ", "come Gen 10000 ", "near 0 ", "near 41 ",
                        "near 5 a a "):
                self.check_refused(TWO, row + text, words)

    def test_the_text_ahead_of_full(self):
        rows = [f"come {name} 5 the man" for name in words_from(0, 11)]
        self.check_refused(rows, "come new 5 " + self.LONG_RUN, "bad word")
        self.check_refused(rows, "come aaa 5 " + self.MANY, "bad book")
        self.check_refused(rows, "come aaa 5 the man", "name taken")
        self.check_refused(rows, "come New 10000 the man", "bad name")
        self.check_refused(rows, "come aaa 10000 the man", "bad year")


class NothingHandedInIsKeptOrChanged(FrontTest):

    def test_rows_stay_as_they_were(self):
        rows = TWO + ["Books ", "leave gen", "near 5  a"]
        handed = list(rows)
        answers(TERMS, handed)
        self.assertEqual(handed, rows)

    def test_what_is_told_is_made_anew_and_nothing_is_kept(self):
        rows = TWO + WATCH
        told = answers(TERMS, rows)
        due = list(told)
        told.clear()
        self.assertEqual(answers(TERMS, rows), due)
        rows.clear()
        self.assertEqual(answers(TERMS, ["books", "show 1"]), ["-", "refused: no finding"])

    def test_terms_stay_as_they_were(self):
        terms = Terms(10, 2, 3, 20, near=[("thou", "you", 4)])
        answers(terms, TWO + WATCH)
        self.assertEqual((terms.same, terms.out, terms.into, terms.least, terms.part, terms.near),
                         (10, 2, 3, 20, 50, [("thou", "you", 4)]))

    def test_two_hundred_rows(self):
        rows = ["come gen 1 the man", "leave gen"] * 100
        self.assertEqual(answers(TERMS, rows), ["0"] * 200)

    def test_plain_texts_in_a_list(self):
        told = answers(TERMS, TWO + WATCH)
        self.assertIs(type(told), list)
        self.assertEqual({type(text) for text in told}, {str})

    def test_the_arguments_bear_their_names(self):
        self.assertEqual(answers(rows=["books"], terms=TERMS), ["-"])


if __name__ == "__main__":
    unittest.main()
