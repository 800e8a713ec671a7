"""What is found by trying all: the best fraction, and whether designs differ only in the names of their factors."""

from halffactors.words import mask_length, products_of


def increasing_lists(factors, count):
    """All lists of 1 or 2 masks above 0 that increase as numbers, in order; such masks are independent."""
    limit = 1 << factors
    if count == 1:
        return [[mask] for mask in range(1, limit)]
    found = []
    for first in range(1, limit):
        for second in range(first + 1, limit):
            found.append([first, second])
    return found


def best_masks(factors, count):
    """The masks of the best fraction: of the lists with the least pattern, the first one."""
    lengths = [mask_length(mask) for mask in range(1 << factors)]
    chosen = []
    least = []
    for masks in increasing_lists(factors, count):
        counts = [0] * (factors + 1)
        for mask in products_of(masks):
            counts[lengths[mask]] += 1
        if len(chosen) == 0 or counts < least:
            chosen = masks
            least = counts
    return chosen


def orders_of(factors):
    """Every order of the factors."""
    found = [[]]
    for factor in range(factors):
        longer = []
        for order in found:
            for place in range(len(order) + 1):
                longer.append(order[:place] + [factor] + order[place:])
        found = longer
    return found


def renamed(mask, order):
    """The mask with the factor that the order tells in the place of each of its factors."""
    found = 0
    for factor, name in enumerate(order):
        if mask & (1 << factor):
            found |= 1 << name
    return found


def lead_into(masks, order, products):
    """Whether each of the masks, renamed, is among the products."""
    for mask in masks:
        if renamed(mask, order) not in products:
            return False
    return True


def same_but_for_names(factors, first, second):
    """Whether two lists of independent masks are equivalent."""
    # As many independent masks have as many products: then it's enough that the first ones lead into the second ones.
    if len(first) != len(second):
        return False
    products = products_of(second)
    for order in orders_of(factors):
        if lead_into(first, order, products):
            return True
    return False
