"""A library: books that come and go, and what was found between them."""

from quotefind.entries import copied, entry_of
from quotefind.errors import BadBook, BadName, BadYear, Full, HasLeft, NameTaken, NoBook, NoFinding
from quotefind.findings import compare
from quotefind.following import chain_to_oldest
from quotefind.nearness import check_search, near_stretches
from quotefind.words import BOOK_MOST, check_words, is_word

BOOKS_MOST = 12
YEAR_MOST = 9999


class Book:

    def __init__(self, name, year, words):
        self.name = name
        self.year = year
        # A copy, so that a later change of the list that was handed in changes no book.
        self.words = list(words)


def check_book(name, year, words):
    if not is_word(name):
        raise BadName("the name of a book is a word")
    if year < 0 or year > YEAR_MOST:
        raise BadYear(f"a year lies between 0 and {YEAR_MOST}")
    if len(words) > BOOK_MOST:
        raise BadBook(f"a book has at most {BOOK_MOST} words")
    check_words(words)


def age_of(book):
    return (book.year, book.name)


def rank_of(entry):
    return (-entry.worth, entry.number)


class Library:
    """Kept are the books that are there, the oldest first, and all entries ever made, by number."""

    def __init__(self, terms):
        # No copy: the fields of terms are only read.
        self.terms = terms
        self.shelf = []
        self.entries = []

    def come(self, name, year, words):
        check_book(name, year, words)
        if name in self.books():
            raise NameTaken("a book of this name is there")
        if len(self.shelf) >= BOOKS_MOST:
            raise Full(f"a library has at most {BOOKS_MOST} books")
        book = Book(name, year, words)
        # All comparing is done before anything is kept: it may be refused at the last book.
        made = self.entries_with(book)
        self.entries.extend(made)
        self.shelf = sorted(self.shelf + [book], key=age_of)
        return [entry.number for entry in made]

    def entries_with(self, book):
        made = []
        for other in self.shelf:
            by_age = sorted([book, other], key=age_of)
            older = by_age[0]
            newer = by_age[1]
            for finding in compare(older.words, newer.words, self.terms):
                number = len(self.entries) + len(made) + 1
                made.append(entry_of(number, older.name, newer.name, finding))
        return made

    def leave(self, name):
        gone = self.book_named(name)
        # Entries of an earlier book of this name are marked already, so the name alone tells.
        marked = [entry for entry in self.standing() if gone.name in (entry.older, entry.newer)]
        for entry in marked:
            entry.left = True
        self.shelf = [book for book in self.shelf if book.name != gone.name]
        return [entry.number for entry in marked]

    def book_named(self, name):
        for book in self.shelf:
            if book.name == name:
                return book
        raise NoBook("no book of this name is there")

    def books(self):
        return [book.name for book in self.shelf]

    def words_in(self, name):
        return list(self.book_named(name).words)

    def found(self):
        return len(self.entries)

    def kept_entry(self, number):
        if number < 1 or number > len(self.entries):
            raise NoFinding("no entry has this number")
        return self.entries[number - 1]

    def entry(self, number):
        return copied(self.kept_entry(number))

    def standing(self):
        return [entry for entry in self.entries if not entry.left]

    def listed(self):
        return [entry.number for entry in sorted(self.standing(), key=rank_of)]

    def between(self, name, other):
        named = [self.book_named(name).name, self.book_named(other).name]
        # The two books of an entry differ, so the same name twice tells nothing.
        chosen = [entry for entry in self.standing() if sorted([entry.older, entry.newer]) == sorted(named)]
        return [entry.number for entry in sorted(chosen, key=rank_of)]

    def follow(self, number):
        if self.kept_entry(number).left:
            raise HasLeft("a book of this entry has left")
        return chain_to_oldest(self.standing(), number, self.books(), self.terms.part)

    def search(self, told, within):
        check_search(told, within)
        stretches = []
        for book in self.shelf:
            for low, high in near_stretches(book.words, told, within, self.terms):
                stretches.append((book.name, low, high))
        return stretches
