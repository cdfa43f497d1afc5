"""How many rows and how many sets there are of some things, whatever the things are."""


def arrangements(n, k):
    """How many rows of k different ones there are of n things; 0 where k is above n, for then one factor is 0."""
    total = 1
    for taken in range(k):
        total *= n - taken
    return total


def choices(n, k):
    """How many sets of k there are of n things; 0 where k is above n, for then one factor is 0."""
    total = 1
    for taken in range(k):
        # Nothing is lost by the division: what comes out is how many sets of taken + 1 there are.
        total = total * (n - taken) // (taken + 1)
    return total
