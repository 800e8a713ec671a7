"""What the tests share: asking the program call by call, and the document's words reckoned in another way."""

import fractions
import itertools

from halffactors.trials import answers

(CREATE, ADD_GENERATOR, REMOVE_GENERATOR, GENERATORS, DEFINING, RESOLUTION, PATTERN, ALIASES, REPRESENTATIVE,
 ARE_ALIASED, IS_CLEAR, RUN_COUNT, RUNS, IS_RUN, FOLD, PROJECT, SET_BLOCKS, BLOCK_OF, BLOCK_RUNS, CONFOUNDED, ESTIMATE,
 ESTIMATES, ARE_ESTIMABLE, BEST, TAKE_BEST, IS_EQUIVALENT, SUMMARY) = range(27)

LARGEST = 4294967295
MOST_CALLS = 200


def row(numbers):
    """A list as it is handed in: how many numbers it has, then these."""
    return [len(numbers), *numbers]


def ask(*calls):
    """The answers of the calls, each a list; the calls are handed in as one request."""
    flat = [number for call in calls for number in call]
    handed = list(flat)
    told = answers(handed)
    if handed != flat:
        raise AssertionError("the list handed in was changed")
    if type(told) is not list or any(type(number) is not int for number in told):
        raise AssertionError("the answer is not a list of whole numbers")
    found = []
    at = 0
    while at < len(told):
        end = at + 1 + told[at]
        found.append(told[at + 1:end])
        at = end
    if at != len(told) or len(found) != len(calls):
        raise AssertionError("the answer has another number of answers than there are calls")
    return found


def ask_design(factors, words, calls, blocks=()):
    """The answers of the calls on a design, in as many requests as it takes."""
    setting = [[CREATE, factors]] + [[ADD_GENERATOR, mask, sign] for mask, sign in words] + [[SET_BLOCKS, *row(blocks)]]
    step = MOST_CALLS - len(setting)
    found = []
    for begin in range(0, len(calls), step):
        part = ask(*setting, *calls[begin:begin + step])
        made = [[0]] + [[count] for count in range(1, len(words) + 1)] + [[2 ** len(blocks)]]
        if part[:len(setting)] != made:
            raise AssertionError(f"the design was not made: {factors}, {words}, {blocks}")
        found += part[len(setting):]
    return found


def members(mask):
    return {factor for factor in range(8) if mask >> factor & 1}


def in_order(words):
    return sorted(words, key=lambda word: (len(members(word[0])), word[0]))


def sign_of(mask, run):
    return len(members(mask) - members(run)) % 2


def span(words):
    """The subgroup: a word for each choice among the generators."""
    found = []
    for choice in itertools.product((False, True), repeat=len(words)):
        mask = 0
        sign = 0
        for taken, word in zip(choice, words):
            if taken:
                mask ^= word[0]
                sign += word[1]
        found.append((mask, sign % 2))
    return found


def flat(words):
    return [len(words)] + [number for word in words for number in word]


def aliases_of(words, effect):
    return in_order([(mask ^ effect, sign) for mask, sign in span(words)])


def runs_of(factors, words):
    return [run for run in range(2 ** factors) if all(sign_of(mask, run) == sign for mask, sign in words)]


def masks_in_order(masks):
    return sorted(masks, key=lambda mask: (len(members(mask)), mask))


def span_of_masks(masks):
    """All products of the masks."""
    return {mask for mask, sign in span([(mask, 0) for mask in masks])}


def estimate_of(factors, words, effect, responses):
    """The estimate as a fraction, added up run by run."""
    found = runs_of(factors, words)
    contrast = sum(-response if sign_of(effect, run) else response for run, response in zip(found, responses))
    return fractions.Fraction(contrast if effect == 0 else 2 * contrast, len(found))


def draws(seed, limit):
    """Numbers from 0 to limit - 1, without end; the same ones each time."""
    state = seed
    while True:
        state = (state * 6364136223846793005 + 1442695040888963407) % 2 ** 64
        yield (state >> 33) % limit


def independent_masks(factors, words, count, seed):
    """So many masks that are independent together with the words."""
    found = []
    for mask in draws(seed, 2 ** factors):
        if len(found) == count:
            return found
        if mask not in span_of_masks([word[0] for word in words] + found):
            found.append(mask)


def some_designs():
    """Designs of 2 to 8 factors with each number of generators, four of each; the same ones each time."""
    seed = 1
    found = []
    for factors in range(2, 9):
        for count in range(factors + 1):
            for turn in range(4):
                words = []
                while len(words) < count:
                    seed = (seed * 1103515245 + 12345) % 2 ** 31
                    mask = (seed >> 8) % 2 ** factors
                    if mask not in [word[0] for word in span(words)]:
                        words.append((mask, seed >> 20 & 1))
                found.append((factors, words))
    return found
