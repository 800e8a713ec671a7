"""Masks, words and runs.

A mask is a whole number whose binary digits are factors. A word is a tuple of a mask and a sign, 0 or 1.
"""


def mask_length(mask):
    """How many factors the mask has."""
    count = 0
    rest = mask
    while rest > 0:
        count += rest & 1
        rest >>= 1
    return count


def mask_order(mask):
    """The key by which masks are ordered: by length, then by value."""
    return (mask_length(mask), mask)


def word_order(word):
    """The key by which words are ordered: that of their masks."""
    return mask_order(word[0])


def word_product(first, second):
    """The product of two words."""
    return (first[0] ^ second[0], first[1] ^ second[1])


def subgroup_of(generators):
    """All products of the generators, the empty word first, the others in no promised order."""
    words = [(0, 0)]
    for generator in generators:
        products = [word_product(word, generator) for word in words]
        words = words + products
    return words


def defining_of(generators):
    """The defining words, in order."""
    return sorted(subgroup_of(generators)[1:], key=word_order)


def aliases_of(generators, mask):
    """The aliases of the effect with this mask, in order."""
    effect = (mask, 0)
    return sorted([word_product(effect, word) for word in subgroup_of(generators)], key=word_order)


def sign_in_run(mask, run):
    """The sign of the mask in the run: whether an odd number of its factors is at the low level."""
    return mask_length(mask & ~run) % 2


def satisfies(generators, run):
    """Whether every generator has its sign in the run."""
    for mask, sign in generators:
        if sign_in_run(mask, run) != sign:
            return False
    return True


def runs_of(factors, generators):
    """The runs of the design, in increasing order as numbers."""
    return [run for run in range(1 << factors) if satisfies(generators, run)]


def products_of(masks):
    """All products of the masks, the empty one, which is 0, among them."""
    products = [0]
    for mask in masks:
        products = products + [product ^ mask for product in products]
    return products


def are_independent(masks):
    """Whether no product of one or more of the masks is 0."""
    products = [0]
    for mask in masks:
        # Each mask that passes doubles the products: so it's stopped at the first one that doesn't.
        if mask in products:
            return False
        products = products + [product ^ mask for product in products]
    return True


def folded(generators, mask):
    """The generators that folding over for the mask leaves."""
    taken = []
    products = subgroup_of(taken)
    for word in defining_of(generators):
        if mask_length(word[0] & mask) % 2 == 0 and word not in products:
            taken.append(word)
            products = subgroup_of(taken)
    return taken


def representatives_of(factors, generators):
    """The effects that are their own representatives, in order."""
    words = subgroup_of(generators)
    aliased = {}
    found = []
    for mask in sorted(range(1 << factors), key=mask_order):
        if mask not in aliased:
            found.append(mask)
            for word in words:
                aliased[mask ^ word[0]] = True
    return found


def block_number(blocks, run):
    """The number whose binary digits, the most significant one first, are the signs of these masks in the run."""
    block = 0
    for mask in blocks:
        block = block * 2 + sign_in_run(mask, run)
    return block


def confounded_of(generators, blocks):
    """The confounded effects, in order."""
    aliased = [word[0] for word in subgroup_of(generators)]
    products = products_of([word[0] for word in generators] + blocks)
    return sorted([mask for mask in products if mask not in aliased], key=mask_order)
