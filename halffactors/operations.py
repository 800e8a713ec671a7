"""The calls on a design, one function for each, and the choice among them.

Each gives back the list of the numbers it answers; a refusal is a list of its code alone.
"""

from halffactors.codes import ALREADY_DEFINING, NO_SUCH, NOT_ALIASED, NOT_CREATED, OUT_OF_RANGE
from halffactors.estimating import can_be_estimated, contrasts_of, estimate_of
from halffactors.search import best_masks, same_but_for_names
from halffactors.words import aliases_of, are_independent, block_number, confounded_of, defining_of, folded
from halffactors.words import mask_length, representatives_of, runs_of, satisfies, subgroup_of

MOST_RUNS_AT_ONCE = 32
MOST_RUNS_OF_A_BLOCK = 64
LARGEST_RESPONSE = 1000000
MOST_EFFECTS = 12
MOST_FACTORS_SEARCHED = 6
MOST_GENERATORS_SEARCHED = 2


def fits(design, mask):
    """Whether the mask has only factors of the design."""
    return mask < (1 << design.factors)


def all_fit(design, masks):
    """Whether each of the masks has only factors of the design."""
    for mask in masks:
        if not fits(design, mask):
            return False
    return True


def generator_masks(design):
    return [word[0] for word in design.generators]


def count_of_runs(design):
    return 1 << (design.factors - len(design.generators))


def design_runs(design):
    return runs_of(design.factors, design.generators)


def words_answer(words):
    """The number of words, followed by the mask and the sign of each."""
    answer = [len(words)]
    for mask, sign in words:
        answer.append(mask)
        answer.append(sign)
    return answer


def create(design, factors):
    if factors < 2 or factors > 8:
        return [OUT_OF_RANGE]
    design.factors = factors
    design.redefine([])
    return [0]


def add_generator(design, mask, sign):
    if mask == 0 or not fits(design, mask) or sign > 1:
        return [OUT_OF_RANGE]
    if mask in [word[0] for word in defining_of(design.generators)]:
        return [ALREADY_DEFINING]
    design.redefine(design.generators + [(mask, sign)])
    return [len(design.generators)]


def remove_generator(design, index):
    if index >= len(design.generators):
        return [NO_SUCH]
    design.redefine(design.generators[:index] + design.generators[index + 1:])
    return [len(design.generators)]


def generators(design):
    return words_answer(design.generators)


def defining(design):
    return words_answer(defining_of(design.generators))


def resolution(design):
    words = defining_of(design.generators)
    if len(words) == 0:
        return [0]
    # The order of masks begins with the shortest.
    return [mask_length(words[0][0])]


def pattern(design):
    lengths = [mask_length(word[0]) for word in defining_of(design.generators)]
    return [design.factors] + [lengths.count(length) for length in range(1, design.factors + 1)]


def aliases(design, mask):
    if not fits(design, mask):
        return [OUT_OF_RANGE]
    return words_answer(aliases_of(design.generators, mask))


def representative(design, mask):
    if not fits(design, mask):
        return [OUT_OF_RANGE]
    return list(aliases_of(design.generators, mask)[0])


def are_aliased(design, first, second):
    if not fits(design, first) or not fits(design, second):
        return [OUT_OF_RANGE]
    product = first ^ second
    for mask, sign in subgroup_of(design.generators):
        if mask == product:
            return [sign]
    return [NOT_ALIASED]


def is_clear(design, mask):
    if not fits(design, mask) or mask_length(mask) not in (1, 2):
        return [OUT_OF_RANGE]
    for alias in aliases_of(design.generators, mask):
        if alias[0] != mask and mask_length(alias[0]) <= 2:
            return [0]
    return [1]


def run_count(design):
    return [count_of_runs(design)]


def runs(design, start):
    found = design_runs(design)
    if start > len(found):
        return [NO_SUCH]
    part = found[start:start + MOST_RUNS_AT_ONCE]
    return [len(part)] + part


def is_run(design, run):
    if not fits(design, run):
        return [OUT_OF_RANGE]
    if satisfies(design.generators, run):
        return [1]
    return [0]


def fold(design, mask):
    if not fits(design, mask):
        return [OUT_OF_RANGE]
    design.redefine(folded(design.generators, mask))
    return [len(design.generators)]


def project(design, mask):
    if not fits(design, mask):
        return [OUT_OF_RANGE]
    distinct = len(set([run & mask for run in design_runs(design)]))
    is_full = 1 if distinct == (1 << mask_length(mask)) else 0
    return [distinct, count_of_runs(design) // distinct, is_full]


def set_blocks(design, masks):
    if not all_fit(design, masks) or not are_independent(generator_masks(design) + masks):
        return [OUT_OF_RANGE]
    design.blocks = list(masks)
    return [1 << len(masks)]


def block_of(design, run):
    if not fits(design, run) or not satisfies(design.generators, run):
        return [OUT_OF_RANGE]
    return [block_number(design.blocks, run)]


def block_runs(design, block):
    if block >= (1 << len(design.blocks)):
        return [NO_SUCH]
    found = [run for run in design_runs(design) if block_number(design.blocks, run) == block]
    part = found[:MOST_RUNS_OF_A_BLOCK]
    return [len(part)] + part


def confounded(design):
    effects = confounded_of(design.generators, design.blocks)
    return [len(effects)] + effects


def responses_fit(design, responses):
    """Whether there is one response in its range for each run of the design."""
    if len(responses) != count_of_runs(design):
        return False
    for response in responses:
        if abs(response) > LARGEST_RESPONSE:
            return False
    return True


def estimate(design, mask, responses):
    if not fits(design, mask) or not responses_fit(design, responses):
        return [OUT_OF_RANGE]
    contrasts = contrasts_of(design.factors, design_runs(design), responses)
    return [0] + estimate_of(mask, contrasts[mask], len(responses))


def estimates(design, responses):
    if not responses_fit(design, responses):
        return [OUT_OF_RANGE]
    contrasts = contrasts_of(design.factors, design_runs(design), responses)
    effects = representatives_of(design.factors, design.generators)
    answer = [len(effects)]
    for mask in effects:
        answer.append(mask)
        answer.extend(estimate_of(mask, contrasts[mask], len(responses)))
    return answer


def are_estimable(design, lost, effects):
    if not all_fit(design, lost) or not all_fit(design, effects):
        return [OUT_OF_RANGE]
    if 0 in effects or len(effects) > MOST_EFFECTS:
        return [OUT_OF_RANGE]
    kept = [run for run in design_runs(design) if run not in lost]
    if can_be_estimated(kept, effects):
        return [1]
    return [0]


def can_be_searched(factors, count):
    """Whether the best fraction of so many factors with this count of generators may be asked for."""
    if factors < 2 or factors > MOST_FACTORS_SEARCHED:
        return False
    return 1 <= count <= MOST_GENERATORS_SEARCHED and count < factors


def best(design, factors, count):
    if not can_be_searched(factors, count):
        return [OUT_OF_RANGE]
    masks = best_masks(factors, count)
    return [len(masks)] + masks


def take_best(design, count):
    if not can_be_searched(design.factors, count):
        return [OUT_OF_RANGE]
    design.redefine([(mask, 0) for mask in best_masks(design.factors, count)])
    return [len(design.generators)]


def is_equivalent(design, masks):
    if design.factors > MOST_FACTORS_SEARCHED or not all_fit(design, masks) or not are_independent(masks):
        return [OUT_OF_RANGE]
    if same_but_for_names(design.factors, generator_masks(design), masks):
        return [1]
    return [0]


def summary(design):
    return [design.factors, len(design.generators), len(design.blocks), count_of_runs(design)]


CREATE = 0

OPERATIONS = {
    0: create,
    1: add_generator,
    2: remove_generator,
    3: generators,
    4: defining,
    5: resolution,
    6: pattern,
    7: aliases,
    8: representative,
    9: are_aliased,
    10: is_clear,
    11: run_count,
    12: runs,
    13: is_run,
    14: fold,
    15: project,
    16: set_blocks,
    17: block_of,
    18: block_runs,
    19: confounded,
    20: estimate,
    21: estimates,
    22: are_estimable,
    23: best,
    24: take_best,
    25: is_equivalent,
    26: summary,
}


def perform(design, number, arguments):
    """The answer of the call with this number and these arguments, of which no call has more than two."""
    if number != CREATE and design.factors == 0:
        return [NOT_CREATED]
    operation = OPERATIONS[number]
    if len(arguments) == 0:
        return operation(design)
    if len(arguments) == 1:
        return operation(design, arguments[0])
    return operation(design, arguments[0], arguments[1])
