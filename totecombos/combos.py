"""Combinations of a pool: which rows are some, how many there are, and their numbers in the order of rows."""

from totecombos.cards import Pool
from totecombos.counts import arrangements, choices


def length_of(pool):
    """How many numbers a combination of the pool has."""
    return 1 if pool.kind == "place" else pool.k


def followers_of(pool, begun):
    """The numbers that may stand behind a beginning of a row, rising."""
    if pool.kind == "order":
        return [one for one in pool.sets[0] if one not in begun]
    if pool.kind == "any":
        return [one for one in pool.sets[0] if len(begun) == 0 or one > begun[-1]]
    # Of place there is one set and one number, as if it were a single leg.
    return pool.sets[len(begun)]


def is_combination(pool, row):
    """Whether the row is a combination of the pool."""
    if len(row) != length_of(pool):
        return False
    return all([row[at] in followers_of(pool, row[:at]) for at in range(len(row))])


def count_from(pool, begun):
    """How many combinations of the pool begin so; all of them where begun is empty."""
    left = length_of(pool) - len(begun)
    if pool.kind == "order":
        return arrangements(len(followers_of(pool, begun)), left)
    if pool.kind == "any":
        return choices(len(followers_of(pool, begun)), left)
    total = 1
    for interests in pool.sets[len(begun):]:
        total *= len(interests)
    return total


def without(pool, runner):
    """The pool as if no set of it had the runner."""
    sets = []
    for interests in pool.sets:
        sets.append([one for one in interests if one != runner])
    return Pool(pool.kind, pool.k, sets)


def count_with(pool, begun, runner):
    """How many combinations begin so and have the runner in them; None as the runner: how many begin so."""
    total = count_from(pool, begun)
    if runner is None or runner in begun:
        return total
    return total - count_from(without(pool, runner), begun)


def count_before(pool, row, runner=None):
    """How many combinations, of those with the runner in them or of all, stand before this one."""
    total = 0
    for at in range(len(row)):
        begun = row[:at]
        for one in followers_of(pool, begun):
            if one < row[at]:
                total += count_with(pool, begun + [one], runner)
    return total


def row_at(pool, place, runner=None):
    """Of the combinations with the runner in them, or of all, the one with place of them before it; it is there."""
    row = []
    left = place
    for at in range(length_of(pool)):
        begun = row
        for one in followers_of(pool, begun):
            count = count_with(pool, begun + [one], runner)
            if left < count:
                row = begun + [one]
                break
            left -= count
    return row


def next_with(pool, start, runner):
    """The least number from start on of a combination that has the runner in it; None if there is none."""
    if start >= count_from(pool, []):
        return None
    # As many with the runner stand before the one that is sought as stand before start, for it is the first from there.
    before = count_before(pool, row_at(pool, start), runner)
    if before == count_with(pool, [], runner):
        return None
    return count_before(pool, row_at(pool, before, runner))
