"""Terms: what pairs of words are worth, and what leaving out and putting in costs."""

from quotefind.errors import BadNear, BadTerms
from quotefind.words import is_word

WORTH_MOST = 999999
NEAR_MOST = 60
PART_MOST = 100


def is_between(low, number, high):
    return low <= number and number <= high


def check_number(name, number, low, high):
    if not is_between(low, number, high):
        raise BadTerms(f"{name} lies between {low} and {high}")


def check_near_form(x, y, price):
    if not is_word(x) or not is_word(y):
        raise BadNear("a near form has two words")
    if x == y:
        raise BadNear("the two words of a near form differ")
    if not is_between(0, price, WORTH_MOST):
        raise BadNear(f"the price of a near form lies between 0 and {WORTH_MOST}")


def near_prices(near):
    if len(near) > NEAR_MOST:
        raise BadNear(f"there are at most {NEAR_MOST} near forms")
    prices = {}
    for x, y, price in near:
        check_near_form(x, y, price)
        if (x, y) in prices:
            raise BadNear("two near forms have the same two words")
        prices[(x, y)] = price
    return prices


class Terms:

    def __init__(self, same, out, into, least, part=50, near=None):
        # The numbers are looked at first: BadTerms goes ahead of BadNear.
        check_number("same", same, 1, WORTH_MOST)
        check_number("out", out, 0, WORTH_MOST)
        check_number("into", into, 0, WORTH_MOST)
        check_number("least", least, 1, WORTH_MOST)
        check_number("part", part, 1, PART_MOST)
        self.same = same
        self.out = out
        self.into = into
        self.least = least
        self.part = part
        # A copy, so that a later change of the list that was handed in changes nothing here.
        self.near = [] if near is None else list(near)
        self.prices = near_prices(self.near)

    def pair_worth(self, x, y):
        if x == y:
            return self.same
        price = self.prices.get((x, y))
        if price is None:
            return None
        return self.same - price

    def turned(self):
        near = [(y, x, price) for x, y, price in self.near]
        return Terms(self.same, self.into, self.out, self.least, self.part, near)
