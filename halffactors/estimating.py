"""Contrasts and estimates, and which effects can be estimated from some runs."""

from halffactors.words import sign_in_run


def greatest_divisor(first, second):
    """The greatest common divisor of two numbers that are not below 0."""
    larger = first
    smaller = second
    while smaller > 0:
        rest = larger % smaller
        larger = smaller
        smaller = rest
    return larger


def lowest_terms(numerator, denominator):
    """The fraction as a list of its numerator and its denominator; the one handed in has a denominator above 0."""
    divisor = greatest_divisor(abs(numerator), denominator)
    return [numerator // divisor, denominator // divisor]


def contrasts_of(factors, runs, responses):
    """The contrasts of all effects, each at the place of its mask.

    Factor by factor, two sums that differ in its level alone become their sum and their difference: so all effects
    are reckoned together, and the runs are not gone through once for each effect.
    """
    every = (1 << factors) - 1
    found = [0] * (every + 1)
    for run, response in zip(runs, responses):
        # It is the factors at their low level that make a sign.
        found[every ^ run] = response
    for factor in range(factors):
        bit = 1 << factor
        sums = [found[place & ~bit] + found[place | bit] for place in range(every + 1)]
        differences = [found[place & ~bit] - found[place | bit] for place in range(every + 1)]
        found = [differences[place] if place & bit else sums[place] for place in range(every + 1)]
    return found


def estimate_of(mask, contrast, total):
    """The estimate of the effect with this mask and contrast, of so many runs in total."""
    if mask == 0:
        return lowest_terms(contrast, total)
    return lowest_terms(2 * contrast, total)


def levels_in(run, effects):
    """For each effect 1 if its sign in the run is 0, else -1."""
    return [1 - 2 * sign_in_run(effect, run) for effect in effects]


def rank_of(rows, width):
    """The rank of rows of whole numbers, each of this width."""
    rest = rows
    rank = 0
    before = 1
    for column in range(width):
        pivots = [row for row in rest if row[column] != 0]
        if len(pivots) > 0:
            rank += 1
            pivot = pivots[0]
            rest = [cleared(row, pivot, column, before) for row in rest]
            before = pivot[column]
    return rank


def cleared(row, pivot, column, before):
    """The row less so much of the pivot's row that it has a 0 in the column; the pivot's row itself becomes all 0."""
    # Each number is a determinant of the first numbers times the pivot before: so that one divides without a rest,
    # and the numbers stay small.
    return [(pivot[column] * here - row[column] * there) // before for here, there in zip(row, pivot)]


def can_be_estimated(runs, effects):
    """Whether the effects, and the intercept with them, can be estimated from the runs."""
    asked = [0] + effects
    return rank_of([levels_in(run, asked) for run in runs], len(asked)) == len(asked)
