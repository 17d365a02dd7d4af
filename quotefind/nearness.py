"""Nearness: the stretches of a book in which told words stand near each other."""

from quotefind.errors import BadSearch
from quotefind.words import check_words

SEARCH_MOST = 6
WITHIN_MOST = 40


def check_search(told, within):
    if len(told) < 1 or len(told) > SEARCH_MOST:
        raise BadSearch(f"a search has 1 to {SEARCH_MOST} told words")
    if len(set(told)) < len(told):
        raise BadSearch("the told words of a search differ")
    if within < 1 or within > WITHIN_MOST:
        raise BadSearch(f"a search goes over 1 to {WITHIN_MOST} places")
    # The told texts are looked at last: BadSearch goes ahead of BadWord.
    check_words(told)


def is_answer(word, told_word, terms):
    # What a pair is worth does not count here: it only has to be one that may stand, in either order.
    return terms.pair_worth(word, told_word) is not None or terms.pair_worth(told_word, word) is not None


def near_stretches(words, told, within, terms):
    stretches = []
    # For each told word the last place so far that answers it, -1 for none.
    latest = [-1 for told_word in told]
    low_before = -1
    for high, word in enumerate(words):
        latest = [high if is_answer(word, told_word, terms) else place for told_word, place in zip(told, latest)]
        # The stretches up to high that hold all told words are those that begin at low or ahead of it.
        low = min(latest)
        # Where low stays, such a stretch from there holds them without its last place too.
        if low > low_before and high - low < within:
            stretches.append((low, high))
        low_before = low
    return stretches
