"""The front: rows of text, each answered with one text."""

from quotefind.errors import (
    BadBook, BadName, BadSearch, BadWord, BadYear, Full, HasLeft, NameTaken, NoBook, NoFinding, TooMany,
)
from quotefind.library import Library
from quotefind.words import read_words

FIGURES_MOST = 6

# For each first part of a row what stands behind it.
FORMS = {
    "come": ("name", "number", "text"),
    "leave": ("name",),
    "books": (),
    "list": (),
    "between": ("name", "name"),
    "show": ("number",),
    "follow": ("number",),
    "near": ("number", "text"),
}


def is_figure(sign):
    return "0" <= sign and sign <= "9"


def is_number(part):
    return 1 <= len(part) and len(part) <= FIGURES_MOST and all([is_figure(sign) for sign in part])


def fits(kind, part):
    if kind == "name":
        return len(part) > 0
    if kind == "number":
        return is_number(part)
    return True


def with_text(parts, form):
    """The parts of a row, with all that stands in the place of TEXT as one part."""
    if "text" not in form:
        return parts
    count = len(form)
    # Where nothing stands there, not even a blank, TEXT is there without signs.
    return parts[:count] + [" ".join(parts[count:])]


def read_row(row):
    """The parts of a row, or None for a row of another form."""
    parts = row.split(" ")
    form = FORMS.get(parts[0])
    if form is None:
        return None
    parts = with_text(parts, form)
    if len(parts) != 1 + len(form):
        return None
    if not all([fits(kind, part) for kind, part in zip(form, parts[1:])]):
        return None
    return parts


def tell_coming(library, parts):
    # TEXT is read ahead of the deed: what is refused in it goes first.
    words = read_words(parts[3])
    return [str(len(library.come(parts[1], int(parts[2]), words)))]


def tell_worths(library, numbers):
    told = []
    for number in numbers:
        worth = library.entry(number).worth
        told.append(f"{number}:{worth}")
    return told


def tell_entry(library, number):
    entry = library.entry(number)
    state = "left" if entry.left else "stands"
    return [entry.older, entry.newer, str(entry.worth), state] + [f"{i}:{j}" for i, j in entry.way]


def tell_search(library, parts):
    told = read_words(parts[2])
    return [f"{name}:{low}-{high}" for name, low, high in library.search(told, int(parts[1]))]


def do_deed(library, parts):
    """Does what a row of good form asks for, and tells the parts of the answer."""
    deed = parts[0]
    if deed == "come":
        return tell_coming(library, parts)
    if deed == "leave":
        return [str(len(library.leave(parts[1])))]
    if deed == "books":
        return library.books()
    if deed == "list":
        return tell_worths(library, library.listed())
    if deed == "between":
        return tell_worths(library, library.between(parts[1], parts[2]))
    if deed == "show":
        return tell_entry(library, int(parts[1]))
    if deed == "follow":
        return [str(number) for number in library.follow(int(parts[1]))]
    return tell_search(library, parts)


def told_or_refused(library, parts):
    try:
        told = do_deed(library, parts)
    except BadWord:
        return "refused: bad word"
    except BadBook:
        return "refused: bad book"
    except BadName:
        return "refused: bad name"
    except BadYear:
        return "refused: bad year"
    except NameTaken:
        return "refused: name taken"
    except Full:
        return "refused: full"
    except TooMany:
        return "refused: too many"
    except NoBook:
        return "refused: no book"
    except NoFinding:
        return "refused: no finding"
    except HasLeft:
        return "refused: has left"
    except BadSearch:
        return "refused: bad search"
    return " ".join(told) if len(told) > 0 else "-"


def answer(library, row):
    parts = read_row(row)
    if parts is None:
        return "refused: bad row"
    return told_or_refused(library, parts)


def answers(terms, rows):
    library = Library(terms)
    return [answer(library, row) for row in rows]
