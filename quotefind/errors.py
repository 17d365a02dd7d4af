"""The refusals: one class each, all of them straight under QuoteError."""


class QuoteError(ValueError):
    pass


class BadWord(QuoteError):
    pass


class BadBook(QuoteError):
    pass


class BadTerms(QuoteError):
    pass


class BadNear(QuoteError):
    pass


class BadWay(QuoteError):
    pass


class BadName(QuoteError):
    pass


class BadYear(QuoteError):
    pass


class NameTaken(QuoteError):
    pass


class Full(QuoteError):
    pass


class TooMany(QuoteError):
    pass


class NoBook(QuoteError):
    pass


class NoFinding(QuoteError):
    pass


class HasLeft(QuoteError):
    pass


class BadSearch(QuoteError):
    pass
