"""The numbers that stand for a refusal."""

NOT_CREATED = -11
NO_SUCH = -2
ALREADY_DEFINING = -17
OUT_OF_RANGE = -22
NOT_ALIASED = -33
