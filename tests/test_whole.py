"""The whole program: days of many rows, each answer held against one made of the document's points alone."""

import re
import unittest

from quotefind.errors import (
    BadBook, BadName, BadSearch, BadWord, BadYear, Full, HasLeft, NameTaken, NoBook, NoFinding, QuoteError, TooMany,
)
from quotefind.front import answers
from quotefind.terms import Terms
from tests.helper import Account, Numbers

REFUSAL_WORDS = {
    BadWord: "bad word", BadBook: "bad book", BadName: "bad name", BadYear: "bad year", NameTaken: "name taken",
    Full: "full", TooMany: "too many", NoBook: "no book", NoFinding: "no finding", HasLeft: "has left",
    BadSearch: "bad search",
}
FORMS = [
    r"(come) ([^ ]+) ([0-9]{1,6})(?: (.*))?", r"(leave) ([^ ]+)", r"(books)", r"(list)", r"(between) ([^ ]+) ([^ ]+)",
    r"(show) ([0-9]{1,6})", r"(follow) ([0-9]{1,6})", r"(near) ([0-9]{1,6})(?: (.*))?",
]
NAMES = ["gen", "genesis", "acts", "job", "ruth", "psalm", "kings", "mark", "luke", "john", "amos", "ezra", "joel"]


def words_of(text):
    """Point 5."""
    runs = re.findall("[a-zA-Z]+", text or "")
    if any(len(run) > 12 for run in runs):
        raise BadWord()
    if len(runs) > 40:
        raise BadBook()
    return [run.lower() for run in runs]


def joined(parts):
    return " ".join(parts) or "-"


class Clerk:
    """Answers rows by the document's points, with an Account in the place of a library."""

    def __init__(self, terms):
        self.account = Account(terms)
        self.deeds = {
            "come": lambda name, year, text: self.come(name, int(year), words_of(text)),
            "leave": lambda name: str(len(self.account.leave(name))),
            "books": lambda: joined(self.account.books()),
            "list": lambda: self.worths(self.account.listed()),
            "between": lambda name, other: self.worths(self.account.between(name, other)),
            "near": lambda within, text: self.near(words_of(text), int(within)),
            "show": lambda number: self.show(self.account.entry(int(number))),
            "follow": lambda number: self.follow(int(number)),
        }

    def come(self, name, year, words):
        return str(len(self.account.come(name, year, words)))

    def worths(self, numbers):
        return joined([f"{number}:{self.account.entry(number).worth}" for number in numbers])

    def near(self, told, within):
        return joined([f"{name}:{low}-{high}" for name, low, high in self.account.search(told, within)])

    def show(self, entry):
        """A check in the place of a text: which way is told is not promised."""
        head = f"{entry.older} {entry.newer} {entry.worth} {'left' if entry.left else 'stands'} "

        def is_due(answer):
            pairs = answer[len(head):].split(" ")
            if not answer.startswith(head) or not all(re.fullmatch("[0-9]+:[0-9]+", pair) for pair in pairs):
                return False
            way = [tuple(int(place) for place in pair.split(":")) for pair in pairs]
            plain = " ".join(f"{i}:{j}" for i, j in way)
            return answer == head + plain and self.account.is_way(entry.number, way)
        return is_due

    def follow(self, number):
        """A check, too: which chain is told is not promised."""
        if self.account.entry(number).left:
            raise HasLeft()

        def is_due(answer):
            told = [int(part) for part in answer.split(" ")]
            return answer == " ".join(str(one) for one in told) and self.account.is_chain(number, told)
        return is_due

    def due(self, row):
        """The answer to a row, or what tells of an answer whether it can stand."""
        for form in FORMS:
            match = re.fullmatch(form, row)
            if match:
                try:
                    return self.deeds[match.group(1)](*match.groups()[1:])
                except QuoteError as error:
                    return "refused: " + REFUSAL_WORDS[type(error)]
        return "refused: bad row"


class Day:
    """Rows that look as if made by chance, the same ones at each run."""

    def __init__(self, seed, letters):
        self.numbers = Numbers(seed)
        self.letters = letters

    def text(self):
        words = self.numbers.book(self.letters, self.numbers.below(14))
        return self.numbers.one_of([" ", "  ", ", ", " - "]).join(words)

    def come(self):
        name = self.numbers.one_of(NAMES)
        return f"come {name} {self.numbers.below(4)} {self.text()}"

    def near(self):
        told = self.numbers.book(self.letters, 1 + self.numbers.below(3))
        return f"near {self.numbers.one_of([1, 2, 3, 5, 9, 40])} " + " ".join(told)

    def odd(self):
        name = self.numbers.one_of(NAMES)
        return self.numbers.one_of([
            "", " books", "list ", "Books", "come  x 1 a", f"come {name} 1", f"come {name} 10000 a",
            f"come {name}2 1 a", f"come {name} 1 " + "a " * 41, f"come {name} 3 abcdefghijklm", "leave nobody",
            "leave much", f"between {name} nobody", f"between {name} {name}", "show 0", "show 000001",
            "show 0000001", "show -1", "follow 999999", "near 0 a", "near 41 a", "near 5", "near 5 a a",
            "near 5 a b c d e f g", "near 5 A, B!",
        ])

    def row(self):
        kind = self.numbers.below(20)
        number = 1 + self.numbers.below(60)
        if kind < 6:
            return self.come()
        if kind < 9:
            return f"leave {self.numbers.one_of(NAMES)}"
        if kind < 11:
            return f"show {number}"
        if kind < 14:
            return f"follow {number}"
        if kind < 15:
            return self.near()
        if kind < 16:
            return f"between {self.numbers.one_of(NAMES)} {self.numbers.one_of(NAMES)}"
        return self.numbers.one_of(["books", "list", self.odd(), self.odd()])


def near_of(letters):
    return [(letters[0], letters[1], 2), (letters[1], letters[2], 5), (letters[3], letters[0], 8)]


class WholeDays(unittest.TestCase):

    def check_day(self, terms, rows):
        clerk = Clerk(terms)
        told = answers(terms, rows)
        self.assertEqual(len(told), len(rows))
        for place, (row, answer) in enumerate(zip(rows, told)):
            due = clerk.due(row)
            if isinstance(due, str):
                self.assertEqual(answer, due, (place, row))
            else:
                self.assertTrue(due(answer), (place, row, answer))
        return told

    def test_days(self):
        told = []
        chains = 0
        for seed, part in enumerate((1, 50, 51, 67, 100, 50)):
            letters = "abcdefghijklmnop"[:8 + 2 * (seed % 3)]
            day = Day(40 + seed, letters)
            rows = [day.row() for count in range(20)]
            # Two books with more than 20 findings between them.
            rows += ["come much 3 " + "a " * 14, "come more 2 " + "a " * 15, "list"]
            rows += [day.row() for count in range(170)] + ["books", "list"]
            terms = Terms(6, seed % 3, 1 + seed % 2, 11, part, near_of(letters))
            today = self.check_day(terms, rows)
            told.extend(zip(rows, today))
            chains = max([chains] + [len(answer.split(" ")) for row, answer in zip(rows, today)
                                     if row.startswith("follow") and not answer.startswith("refused")])
        self.assertGreater(chains, 2)
        refusals = {answer for row, answer in told if answer.startswith("refused: ")}
        self.assertEqual(refusals, {"refused: " + words for words in list(REFUSAL_WORDS.values()) + ["bad row"]})
        self.assertTrue(any(" left " in answer for row, answer in told))
        self.assertTrue(any(" stands " in answer for row, answer in told))

    def test_a_day_of_books_that_quote_one_another(self):
        rows = [
            "come genesis 100 In the beginning God made the heaven and the earth. And the earth was without form.",
            "come psalm 300 Of old, in the beginning, thou made the heaven and also the earth; they perish, thou not.",
            "come john 900 In the beginning was the word. And you made the heavens and the earth, they perish!",
            "list", "show 1", "show 2", "show 3", "follow 1", "follow 2", "follow 3", "near 6 heaven earth",
            "come acts 950 God that created the heavens and the earth, and they perish not.",
            "books", "list", "follow 4", "follow 5", "follow 6", "between acts psalm", "near 4 god heaven",
            "leave psalm", "list", "follow 1", "follow 3", "show 1", "near 8 created earth",
            "come psalm 50 the heaven and the earth", "books", "list", "follow 7", "follow 8", "follow 9",
            "leave genesis", "leave john", "leave acts", "leave psalm", "list", "books", "show 9",
        ]
        near = [("heaven", "heavens", 2), ("made", "created", 5), ("thou", "you", 1)]
        told = self.check_day(Terms(10, 2, 2, 30, 50, near), rows)
        self.assertGreater(max(len(answer) for answer in told), 40)

    def test_a_full_library(self):
        day = Day(77, "abcdefghijklmn")
        rows = [f"come {name} {place % 3} {day.text()}" for place, name in enumerate(NAMES)]
        rows += ["books", "list", "leave ruth", "come joel 0 " + day.text(), "come ruth 1 a", "books", "list"]
        rows += [f"follow {number}" for number in range(1, 60)]
        rows += [f"show {number}" for number in range(1, 60)]
        told = self.check_day(Terms(6, 1, 1, 12, 50, near_of("abcd")), rows)
        self.assertEqual([answer for answer in told if answer == "refused: full"], ["refused: full"] * 2)


if __name__ == "__main__":
    unittest.main()
