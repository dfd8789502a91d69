"""Which of two comes first, and at which of two one can have heard of the other."""

SAME = 0
AT_SECOND = 1
AT_FIRST = 2
AT_NEITHER = 3


def leader(ahead):
    """0 if the first is ahead, 1 if neither is, 2 if the second is; ahead is by how much the first is."""
    if ahead > 0:
        return 0
    if ahead == 0:
        return 1
    return 2


def heard(less, both):
    """At which of two one can have heard of the other.

    less is how far time less place goes on from the first to the second, both how far time and place together do.
    Something is no farther off than it is sooner just if neither goes back.
    """
    if less == 0 and both == 0:
        return SAME
    if less >= 0 and both >= 0:
        return AT_SECOND
    if less <= 0 and both <= 0:
        return AT_FIRST
    return AT_NEITHER
