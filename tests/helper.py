"""What several tests share."""


# Every sign that a text may have: from the blank to ~, without the sign of per cent.
SIGNS = [chr(code) for code in range(ord(" "), ord("~") + 1) if chr(code) != "%"]

LETTERS = "abcdefghijklmnopqrstuvwxyz"


def refusal_of(call, *args, **kwargs):
    """The very class of the error that a call raises, or None."""
    try:
        call(*args, **kwargs)
    except Exception as error:
        return type(error)
    return None


def word_of(number):
    """A word of three letters, another one for each number below 17576."""
    return LETTERS[number // 676] + LETTERS[number // 26 % 26] + LETTERS[number % 26]


def near_forms(count):
    """So many near forms, no two with the same two words."""
    return [(word_of(number), word_of(number + 1), number) for number in range(count)]
