"""Ways: rows of pairs through two books, and what they are worth."""

from quotefind.errors import BadWay


def is_place(place, words):
    return 0 <= place and place < len(words)


def standing_worth(first, second, terms, pair):
    # A place below nought would count from the book's end, so places are looked at ahead of words.
    if not is_place(pair[0], first) or not is_place(pair[1], second):
        raise BadWay("a book does not have a place of the way")
    worth = terms.pair_worth(first[pair[0]], second[pair[1]])
    if worth is None:
        raise BadWay("a pair of the way may not stand")
    return worth


def price_between(terms, pair, later):
    left_out = later[0] - pair[0] - 1
    put_in = later[1] - pair[1] - 1
    if left_out < 0 or put_in < 0:
        raise BadWay("the places of a way rise strictly")
    return terms.out * left_out + terms.into * put_in


def way_row(first, second, terms, way):
    if len(way) == 0:
        raise BadWay("a way has one pair or more")
    row = []
    for number, pair in enumerate(way):
        worth = standing_worth(first, second, terms, pair)
        if number > 0:
            worth = worth + row[number - 1] - price_between(terms, way[number - 1], pair)
        row.append(worth)
    return row


def way_worth(first, second, terms, way):
    return way_row(first, second, terms, way)[-1]
