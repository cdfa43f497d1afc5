"""Combinations of a pool: rows of numbers, each told by the pool's kind and sets."""

from totecombos.counts import arrangements, choices


def length_of(pool):
    """How many numbers a combination of the pool has."""
    return 1 if pool.kind == "place" else pool.k


def count_all(pool):
    """How many combinations the pool has."""
    length = length_of(pool)
    if pool.kind == "order":
        return arrangements(len(pool.sets[0]), length)
    if pool.kind == "any":
        return choices(len(pool.sets[0]), length)
    # Of place there is one set and one number, as if it were a single leg.
    total = 1
    for interests in pool.sets:
        total *= len(interests)
    return total
