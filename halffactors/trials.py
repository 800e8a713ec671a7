"""The calls on one new design, handed in and answered as flat lists of whole numbers."""

from halffactors.design import Design
from halffactors.operations import perform

# For each call how many whole numbers and how many rows it has. All calls of the document stand here, so that
# each can be read, and refused ahead of the first create.
SHAPES = {
    0: (1, 0),
    1: (2, 0),
    2: (1, 0),
    3: (0, 0),
    4: (0, 0),
    5: (0, 0),
    6: (0, 0),
    7: (1, 0),
    8: (1, 0),
    9: (2, 0),
    10: (1, 0),
    11: (0, 0),
    12: (1, 0),
    13: (1, 0),
    14: (1, 0),
    15: (1, 0),
    16: (0, 1),
    17: (1, 0),
    18: (1, 0),
    19: (0, 0),
    20: (1, 1),
    21: (0, 1),
    22: (0, 2),
    23: (2, 0),
    24: (1, 0),
    25: (0, 1),
    26: (0, 0),
}


def split_calls(calls):
    """The calls, each as a tuple of its number and the list of its arguments, in which a row is a list."""
    found = []
    at = 0
    while at < len(calls):
        shape = SHAPES[calls[at]]
        end = at + 1 + shape[0]
        arguments = calls[at + 1:end]
        for turn in range(shape[1]):
            begin = end + 1
            end = begin + calls[end]
            arguments.append(calls[begin:end])
        found.append((calls[at], arguments))
        at = end
    return found


def answers(calls):
    """For each call, how many numbers it answers, followed by these."""
    design = Design()
    told = []
    for number, arguments in split_calls(calls):
        answer = perform(design, number, arguments)
        told.append(len(answer))
        told.extend(answer)
    return told
