"""Words: what is one, and how a text is read as words."""

from quotefind.errors import BadBook, BadWord

WORD_MOST = 12
BOOK_MOST = 40


def is_small_letter(sign):
    return "a" <= sign and sign <= "z"


def is_capital(sign):
    return "A" <= sign and sign <= "Z"


def is_word(text):
    if len(text) < 1 or len(text) > WORD_MOST:
        return False
    return all([is_small_letter(sign) for sign in text])


def check_words(texts):
    if not all([is_word(text) for text in texts]):
        raise BadWord(f"a word has 1 to {WORD_MOST} small letters")


def small_letter_or_blank(sign):
    if is_small_letter(sign):
        return sign
    if is_capital(sign):
        return sign.lower()
    # Every other sign only parts words, so a blank can stand for each of them.
    return " "


def read_words(text):
    words = "".join([small_letter_or_blank(sign) for sign in text]).split()
    # All runs are looked at before they are counted: BadWord goes ahead of BadBook.
    if any([len(word) > WORD_MOST for word in words]):
        raise BadWord(f"a word has at most {WORD_MOST} letters")
    if len(words) > BOOK_MOST:
        raise BadBook(f"a book has at most {BOOK_MOST} words")
    return words
