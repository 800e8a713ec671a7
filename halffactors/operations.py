"""The calls on a design, one function for each, and the choice among them.

Each gives back the list of the numbers it answers; a refusal is a list of its code alone.
"""

from halffactors.codes import ALREADY_DEFINING, NO_SUCH, NOT_ALIASED, NOT_CREATED, OUT_OF_RANGE
from halffactors.words import aliases_of, defining_of, mask_length, runs_of, satisfies, subgroup_of

MOST_RUNS_AT_ONCE = 32


def fits(design, mask):
    """Whether the mask has only factors of the design."""
    return mask < (1 << design.factors)


def words_answer(words):
    """The number of words, followed by the mask and the sign of each."""
    answer = [len(words)]
    for mask, sign in words:
        answer.append(mask)
        answer.append(sign)
    return answer


def create(design, factors):
    if factors < 2 or factors > 8:
        return [OUT_OF_RANGE]
    design.factors = factors
    design.generators = []
    return [0]


def add_generator(design, mask, sign):
    if mask == 0 or not fits(design, mask) or sign > 1:
        return [OUT_OF_RANGE]
    if mask in [word[0] for word in defining_of(design.generators)]:
        return [ALREADY_DEFINING]
    design.generators = design.generators + [(mask, sign)]
    return [len(design.generators)]


def remove_generator(design, index):
    if index >= len(design.generators):
        return [NO_SUCH]
    design.generators = design.generators[:index] + design.generators[index + 1:]
    return [len(design.generators)]


def generators(design):
    return words_answer(design.generators)


def defining(design):
    return words_answer(defining_of(design.generators))


def resolution(design):
    words = defining_of(design.generators)
    if len(words) == 0:
        return [0]
    # The order of masks begins with the shortest.
    return [mask_length(words[0][0])]


def pattern(design):
    lengths = [mask_length(word[0]) for word in defining_of(design.generators)]
    return [design.factors] + [lengths.count(length) for length in range(1, design.factors + 1)]


def aliases(design, mask):
    if not fits(design, mask):
        return [OUT_OF_RANGE]
    return words_answer(aliases_of(design.generators, mask))


def representative(design, mask):
    if not fits(design, mask):
        return [OUT_OF_RANGE]
    return list(aliases_of(design.generators, mask)[0])


def are_aliased(design, first, second):
    if not fits(design, first) or not fits(design, second):
        return [OUT_OF_RANGE]
    product = first ^ second
    for mask, sign in subgroup_of(design.generators):
        if mask == product:
            return [sign]
    return [NOT_ALIASED]


def is_clear(design, mask):
    if not fits(design, mask) or mask_length(mask) not in (1, 2):
        return [OUT_OF_RANGE]
    for alias in aliases_of(design.generators, mask):
        if alias[0] != mask and mask_length(alias[0]) <= 2:
            return [0]
    return [1]


def run_count(design):
    return [1 << (design.factors - len(design.generators))]


def runs(design, start):
    found = runs_of(design.factors, design.generators)
    if start > len(found):
        return [NO_SUCH]
    part = found[start:start + MOST_RUNS_AT_ONCE]
    return [len(part)] + part


def is_run(design, run):
    if not fits(design, run):
        return [OUT_OF_RANGE]
    if satisfies(design.generators, run):
        return [1]
    return [0]


CREATE = 0

OPERATIONS = {
    0: create,
    1: add_generator,
    2: remove_generator,
    3: generators,
    4: defining,
    5: resolution,
    6: pattern,
    7: aliases,
    8: representative,
    9: are_aliased,
    10: is_clear,
    11: run_count,
    12: runs,
    13: is_run,
}


def perform(design, number, arguments):
    """The answer of the call with this number and these arguments, of which no call has more than two."""
    if number != CREATE and design.factors == 0:
        return [NOT_CREATED]
    operation = OPERATIONS[number]
    if len(arguments) == 0:
        return operation(design)
    if len(arguments) == 1:
        return operation(design, arguments[0])
    return operation(design, arguments[0], arguments[1])
