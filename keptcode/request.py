"""Requests and prices for a codebook, and the names that they concern."""

from keptcode.codebooks import is_length, is_name, is_whole
from keptcode.errors import InvalidPrices, InvalidRequest

LOWEST_PRICE = 1
HIGHEST_PRICE = 999


def is_request(depth, thing):
    """Tell whether a thing is a dict from names to lengths."""
    if not isinstance(thing, dict):
        return False
    return all([is_name(name) and is_length(depth, length) for name, length in thing.items()])


def check_request(book, request):
    """Raise InvalidRequest if a thing is not a request for a codebook."""
    if not is_request(book.depth, request):
        raise InvalidRequest("the request is not a dict from names to lengths")


def is_price(thing):
    """Tell whether a thing is a price of a name."""
    return is_whole(thing) and LOWEST_PRICE <= thing <= HIGHEST_PRICE


def check_prices(prices):
    """Raise InvalidPrices if a thing is not a dict from names to prices."""
    if not isinstance(prices, dict):
        raise InvalidPrices("the prices are not a dict")
    if not all([is_name(name) and is_price(price) for name, price in prices.items()]):
        raise InvalidPrices("the prices are not a dict from names to prices")


def unrequested_words(book, request):
    """Return the ascending dict from the names of a codebook that are not requested to their codewords."""
    words = book.words()
    return {name: words[name] for name in words if name not in request}


def priced_words(book, request, prices):
    """Return the ascending dict from the priced names to their codewords."""
    words = unrequested_words(book, request)
    return {name: words[name] for name in words if name in prices}


def is_selection(words, thing):
    """Tell whether a thing is a list or tuple, without duplicates, of names that are keys of a dict."""
    if not isinstance(thing, (list, tuple)):
        return False
    # The form is tested first, as an object that is not hashable cannot be looked up.
    if not all([is_name(name) and name in words for name in thing]):
        return False
    return len(set(thing)) == len(thing)
