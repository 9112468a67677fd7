"""The numbers that stand for a refusal."""

NO_SUCH = -2
NONE_LEFT = -6
NOT_BEGUN = -11
OUT_OF_RANGE = -22
TOO_MANY = -28
NEVER = -33
