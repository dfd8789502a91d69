"""The numbers by which a call is refused."""

NO_SUCH = -2
NO_CHANGE = -6
NO_LEG = -6
NOT_BEGUN = -11
OUT_OF_RANGE = -22
TOO_MANY = -28
THERE_IS_NONE = -33
TOO_GREAT = -75
