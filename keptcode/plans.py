"""Plans: codewords for the requested names, and for priced names that give way."""

from keptcode.codebooks import Codebook, forms_codebook, is_word_table
from keptcode.errors import InvalidPlan
from keptcode.packing import pack
from keptcode.request import check_prices, check_request, is_selection, priced_words, unrequested_words


def changed_words(book, request, plan):
    """Return the dict from names to codewords that a plan leads to."""
    words = unrequested_words(book, request)
    return {**words, **plan}


def has_plan_lengths(book, request, prices, words):
    """Tell whether words are for all requested and some priced names, and have the lengths of a plan."""
    old = priced_words(book, request, prices)
    lengths = {name: len(old[name]) for name in old}
    lengths.update(request)
    if not all([name in words for name in request]):
        return False
    return all([name in lengths and len(word) == lengths[name] for name, word in words.items()])


def is_plan(book, request, prices, thing):
    """Tell whether a thing is a plan."""
    check_request(book, request)
    check_prices(prices)
    if not is_word_table(book.radix, book.depth, thing) or not has_plan_lengths(book, request, prices, thing):
        return False
    return forms_codebook(book.radix, book.depth, changed_words(book, request, thing), book.reserved())


def check_plan(book, request, prices, plan):
    """Raise an error if the arguments are not a request, prices and a plan."""
    if not is_plan(book, request, prices, plan):
        raise InvalidPlan("this is not a plan for the request and the prices")


def plan_price(book, request, prices, plan):
    """Return the sum of the prices of the recoded names of a plan."""
    check_plan(book, request, prices, plan)
    return sum([prices[name] for name in plan if name not in request])


def apply_plan(book, request, prices, plan):
    """Return the codebook in which the names of a plan have its codewords."""
    check_plan(book, request, prices, plan)
    return Codebook(book.radix, book.depth, changed_words(book, request, plan), book.reserved())


def make_plan(book, request, prices, recoded):
    """Return the plan with these recoded names in which each name gets the first free node."""
    check_request(book, request)
    check_prices(prices)
    if not is_selection(priced_words(book, request, prices), recoded):
        raise InvalidPlan("the recoded names are not a list or tuple of different priced names")
    words = unrequested_words(book, request)
    moved = {name: True for name in recoded}
    return pack(book, request, {name: words[name] for name in words if name not in moved})
