"""Cards: which texts are cards, and the pools of a card with their sets."""

from totecombos.races import interests_of, is_race
from totecombos.words import is_name, is_number, lines_of

MOST_BYTES = 65536
MOST_RACES = 16
MOST_POOLS = 64
MOST_TAKE = 400
MOST_BREAK = 1000
MOST_UNIT = 10000

# From the least k to the greatest of each kind.
BOUNDS_OF_K = {"place": (1, 4), "order": (2, 4), "any": (2, 3), "legs": (2, 6)}
WORDS_OF_NONE = ("refund", "carry", "fewer")

# The words of a pool's line, by where they stand in it.
POOL_WORDS = 16
FIXED_WORDS = {0: "pool", 4: "from", 6: "take", 8: "break", 10: "least", 12: "unit", 14: "none"}
NAME_AT = 1
KIND_AT = 2
K_AT = 3
RACE_AT = 5
TAKE_AT = 7
BREAK_AT = 9
LEAST_AT = 11
UNIT_AT = 13
NONE_AT = 15


class Pool:
    """A pool as far as its combinations need it."""

    def __init__(self, kind, k, sets):
        self.kind = kind
        self.k = k
        self.sets = sets


def read_pools(text):
    """The pools of a card, in their order; None if the text is no card."""
    if len(text) > MOST_BYTES:
        return None
    lines = lines_of(text)
    race_lines = [words for words in lines if words[0] == "race"]
    pool_lines = [words for words in lines if words[0] == "pool"]
    if not is_laid_out(lines, race_lines, pool_lines):
        return None
    if not all([is_race(words) for words in race_lines]):
        return None
    races = [interests_of(words) for words in race_lines]
    if not all([is_pool(words, races) for words in pool_lines]) or not have_own_names(pool_lines):
        return None
    return [pool_of(words, races) for words in pool_lines]


def is_laid_out(lines, race_lines, pool_lines):
    """Whether there is a day, then the races, then the pools, nothing else, and not too many nor too few."""
    if len(lines) == 0 or not is_day(lines[0]) or lines[1:] != race_lines + pool_lines:
        return False
    return 1 <= len(race_lines) <= MOST_RACES and len(pool_lines) <= MOST_POOLS


def is_day(words):
    """Whether these are the words of a card's first line."""
    return len(words) == 2 and words[0] == "day" and is_name(words[1])


def have_own_names(pool_lines):
    """Whether no two pools have one name."""
    names = [words[NAME_AT] for words in pool_lines]
    return len(set(names)) == len(names)


def is_pool(words, races):
    """Whether these are the words of a pool's line on a card with these races, each told as its interests."""
    if len(words) != POOL_WORDS or not is_name(words[NAME_AT]):
        return False
    if not all([words[at] == FIXED_WORDS[at] for at in FIXED_WORDS]):
        return False
    return has_good_kind(words) and has_good_race(words, races) and has_good_money(words)


def has_good_kind(words):
    """Whether the kind, its k and what is done where none has won go together."""
    kind = words[KIND_AT]
    if kind not in BOUNDS_OF_K or words[NONE_AT] not in WORDS_OF_NONE:
        return False
    if kind == "place" and words[NONE_AT] == "fewer":
        return False
    bounds = BOUNDS_OF_K[kind]
    return is_number(words[K_AT], bounds[0], bounds[1])


def has_good_race(words, races):
    """Whether the pool's race is there and has what the pool asks. The kind and its k are known to be good."""
    if not is_number(words[RACE_AT], 1, len(races)):
        return False
    race = int(words[RACE_AT])
    k = int(words[K_AT])
    if words[KIND_AT] == "legs":
        return race + k - 1 <= len(races)
    return len(races[race - 1]) >= k


def has_good_money(words):
    """Whether the take, the break, the unit and the least are within their bounds."""
    if not is_number(words[TAKE_AT], 0, MOST_TAKE) or not is_number(words[BREAK_AT], 1, MOST_BREAK):
        return False
    if not is_number(words[UNIT_AT], 1, MOST_UNIT):
        return False
    unit = int(words[UNIT_AT])
    return is_number(words[LEAST_AT], 0, 0) or is_number(words[LEAST_AT], unit, 2 * unit)


def pool_of(words, races):
    """The pool of a line that is known to be one."""
    kind = words[KIND_AT]
    k = int(words[K_AT])
    first = int(words[RACE_AT]) - 1
    legs = k if kind == "legs" else 1
    return Pool(kind, k, races[first:first + legs])
