"""The numbers by which a call is refused."""

NO_SUCH = -2
NO_LEG = -6
NOT_BEGUN = -11
OUT_OF_RANGE = -22
TOO_MANY = -28
TOO_GREAT = -75
