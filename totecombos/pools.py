"""The calls. Each answers a list of whole numbers; a refusal is a number below 0, alone."""

from totecombos.cards import MOST_BYTES, read_pools
from totecombos.combos import count_before, count_from, is_combination, next_with, row_at
from totecombos.counts import choices

NONE_SUCH = -1
TOO_LONG = -2
NO_POOL = -4
NO_CARD = -6
TOO_MANY = -9

# A runner's next combination is told of no pool with more.
MOST_COMBINATIONS = 65536

# What choose takes greater numbers for.
MOST_THINGS = 64


def refusal_of(pool, text, pools):
    """The refusal of a call, 0 if it is none. pools: what read_pools says of the text."""
    if len(text) > MOST_BYTES:
        return TOO_LONG
    if pools is None:
        return NO_CARD
    if pool >= len(pools):
        return NO_POOL
    return 0


def sets(pool, text):
    """0, how many sets the pool has; then of each how many numbers it has, these."""
    pools = read_pools(text)
    refusal = refusal_of(pool, text, pools)
    if refusal != 0:
        return [refusal]
    answer = [0, len(pools[pool].sets)]
    for interests in pools[pool].sets:
        answer.append(len(interests))
        answer.extend(interests)
    return answer


def many(pool, text):
    """0, how many combinations the pool has."""
    pools = read_pools(text)
    refusal = refusal_of(pool, text, pools)
    if refusal != 0:
        return [refusal]
    return [0, count_from(pools[pool], [])]


def number(pool, text, row):
    """0, the number of the combination that the row is."""
    pools = read_pools(text)
    refusal = refusal_of(pool, text, pools)
    if refusal != 0:
        return [refusal]
    if not is_combination(pools[pool], row):
        return [NONE_SUCH]
    return [0, count_before(pools[pool], row)]


def of(pool, number, text):
    """0, then the combination that has the number."""
    pools = read_pools(text)
    refusal = refusal_of(pool, text, pools)
    if refusal != 0:
        return [refusal]
    if number >= count_from(pools[pool], []):
        return [NONE_SUCH]
    return [0] + row_at(pools[pool], number)


def next_of(pool, number, runner, text):
    """0, the least number above or equal to this one of a combination that has the runner in it."""
    pools = read_pools(text)
    refusal = refusal_of(pool, text, pools)
    if refusal != 0:
        return [refusal]
    if count_from(pools[pool], []) > MOST_COMBINATIONS:
        return [TOO_MANY]
    found = next_with(pools[pool], number, runner)
    return [NONE_SUCH] if found is None else [0, found]


def choose(n, k):
    """0, how many sets of k there are of n things, modulo 2 ** 64; above 64 both are taken for 64."""
    return [0, choices(min(n, MOST_THINGS), min(k, MOST_THINGS)) % 2 ** 64]
