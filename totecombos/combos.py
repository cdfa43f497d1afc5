"""Combinations of a pool: which rows are some, how many there are, and their numbers in the order of rows."""

from totecombos.counts import arrangements, choices


def length_of(pool):
    """How many numbers a combination of the pool has."""
    return 1 if pool.kind == "place" else pool.k


def followers_of(pool, begun):
    """The numbers that may stand behind a beginning of a row, rising."""
    if pool.kind == "order":
        return [one for one in pool.sets[0] if one not in begun]
    if pool.kind == "any":
        return [one for one in pool.sets[0] if len(begun) == 0 or one > begun[-1]]
    # Of place there is one set and one number, as if it were a single leg.
    return pool.sets[len(begun)]


def is_combination(pool, row):
    """Whether the row is a combination of the pool."""
    if len(row) != length_of(pool):
        return False
    return all([row[at] in followers_of(pool, row[:at]) for at in range(len(row))])


def count_from(pool, begun):
    """How many combinations of the pool begin so; all of them where begun is empty."""
    left = length_of(pool) - len(begun)
    if pool.kind == "order":
        return arrangements(len(followers_of(pool, begun)), left)
    if pool.kind == "any":
        return choices(len(followers_of(pool, begun)), left)
    total = 1
    for interests in pool.sets[len(begun):]:
        total *= len(interests)
    return total


def count_before(pool, row):
    """How many combinations of the pool stand before this one."""
    total = 0
    for at in range(len(row)):
        begun = row[:at]
        for one in followers_of(pool, begun):
            if one < row[at]:
                total += count_from(pool, begun + [one])
    return total


def row_at(pool, place):
    """The combination that has place others before it; place is known to be below how many there are."""
    row = []
    left = place
    for at in range(length_of(pool)):
        begun = row
        for one in followers_of(pool, begun):
            count = count_from(pool, begun + [one])
            if left < count:
                row = begun + [one]
                break
            left -= count
    return row
