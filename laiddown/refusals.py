"""The numbers that stand for a refusal."""

NOT_BEGUN = -11
NOT_RIGHT = -22
CANNOT_BE = -33
