"""Quotefind: passages of one book found again in another, even where words were changed."""
