"""Choices of rules from a stock that are enough for a wish."""

from fewbreak.broken import subsets
from fewbreak.errors import BadTable, NotEnough
from fewbreak.vectors import check_stock, least_vectors, vectors


def _meets_all(choice, held):
    """Whether a choice has an item of each of some vectors."""
    return all([any([at in vector for at in choice]) for vector in held])


def _has_within(choice, found):
    """Whether one of some choices is a part of a choice."""
    return any([all([at in choice for at in other]) for other in found])


def least_choices(found_vectors, many):
    """The least choices from a stock of so many rules with some vectors and their lots, in order."""
    held = [vector for vector, _ in found_vectors]
    found = []
    for size in range(many + 1):
        for choice in subsets(many, size):
            if _meets_all(choice, held) and not _has_within(choice, found):
                found.append(choice)
    return found


def short_lot(found_vectors):
    """The lot of the empty vector among some vectors with their lots, None without one."""
    for vector, lot in found_vectors:
        if not vector:
            return lot
    return None


def _checked(found_vectors):
    """Some vectors with their lots; raises NotEnough if no choice is enough."""
    lot = short_lot(found_vectors)
    if lot is not None:
        raise NotEnough(lot)
    return found_vectors


def choices(stock, wish, *, known_rules=()):
    """A generator of all least choices, in order."""
    found_vectors = _checked(vectors(stock, wish, known_rules=known_rules))
    for choice in least_choices(found_vectors, len(stock)):
        yield choice


def _check_prices(prices, many):
    """Raises BadTable for a list that has not so many prices, or has a wrong one."""
    if len(prices) != many:
        raise BadTable(-1)
    for at, price in enumerate(prices):
        if price < 1:
            raise BadTable(at)


def cheapest(stock, wish, *, known_rules=(), unit_prices=None):
    """The choice that is enough and has the least sum of prices; of these the shortest one, and then the first one."""
    check_stock(stock, wish, known_rules)
    prices = [1] * len(stock) if unit_prices is None else unit_prices
    _check_prices(prices, len(stock))
    found_vectors = _checked(least_vectors(stock, wish, known_rules))
    # no price is below 1, so a choice that is not least is not cheapest
    keys = []
    for choice in least_choices(found_vectors, len(stock)):
        keys.append((sum([prices[at] for at in choice]), len(choice), choice))
    return min(keys)[2]
