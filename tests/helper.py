"""What the tests share: building cards, asking, and a second reading of the document to compare with."""

import itertools
import re

from totecombos.pools import many, next_of, number, of, sets

NO_CARD = [-6]
LAST = 4294967295

# Every call with a text, by pool and text alone; those that are handed more with something good and something bad.
CALLS = {
    "sets": sets,
    "many": many,
    "number of a row of one": lambda pool, text: number(pool, text, [1]),
    "number of a row of two": lambda pool, text: number(pool, text, [3, 2]),
    "number of a row of none": lambda pool, text: number(pool, text, [0] * 40),
    "of the first number": lambda pool, text: of(pool, 0, text),
    "of the last number": lambda pool, text: of(pool, LAST, text),
    "next_of the first number": lambda pool, text: next_of(pool, 0, 3, text),
    "next_of the last number": lambda pool, text: next_of(pool, LAST, LAST, text),
}

EACH_KIND = ("place 1", "place 2", "place 3", "place 4", "order 2", "order 3", "order 4", "any 2", "any 3",
             "legs 2", "legs 3", "legs 4", "legs 5", "legs 6")


def text_of(words):
    """The list of bytes of a str or of bytes."""
    return list(words if isinstance(words, bytes) else words.encode("latin-1"))


def ask(card, pool=0):
    return sets(pool, text_of(card))


def pool_line(kind="place 1", race=1, name="p", take=0, brk=1, least=0, unit=1, none="refund"):
    return f"pool {name} {kind} from {race} take {take} break {brk} least {least} unit {unit} none {none}\n"


def card_of(races=("4",), pools=None, day="d"):
    """A card: races as what stands behind the word race, pools as whole lines."""
    lines = [pool_line()] if pools is None else pools
    return f"day {day}\n" + "".join(f"race {race}\n" for race in races) + "".join(lines)


def told(*interests):
    """The answer that tells these sets."""
    answer = [0, len(interests)]
    for one in interests:
        answer += [len(one)] + list(one)
    return answer


def upto(runners):
    return list(range(1, runners + 1))


class Frozen(list):
    """A list that can't be changed, not for a while either."""

    def refuse(self, *given, **named):
        raise AssertionError("what was handed in is changed")

    append = extend = insert = pop = remove = clear = sort = reverse = refuse
    __setitem__ = __delitem__ = __iadd__ = __imul__ = refuse


# The second reading: by patterns over the whole text, in another way than the program's.
NAME = rb"[a-z][a-z0-9]{0,11}"
NUMBER = rb"(?:0|[1-9][0-9]{0,5})"
RACE = rb"race (%b)((?: couple %b %b){0,8})\n" % (NUMBER, NUMBER, NUMBER)
POOL = (rb"pool (%b) (place|order|any|legs) (%b) from (%b) take (%b) break (%b) least (%b) unit (%b) "
        rb"none (refund|carry|fewer)\n") % ((NAME,) + (NUMBER,) * 6)
CARD = re.compile(rb"day %b\n((?:race [^\n]*\n){1,16})((?:pool [^\n]*\n){0,64})" % NAME)


def model_race(line):
    found = re.fullmatch(RACE, line)
    if found is None or not 2 <= int(found[1]) <= 24:
        return None
    runners = int(found[1])
    head_of = {}
    for a, b in re.findall(rb" couple (\d+) (\d+)", found[2]):
        a, b = int(a), int(b)
        if not 1 <= a < b <= runners or a in head_of or b in head_of or b in head_of.values():
            return None
        head_of[b] = a
    return sorted(set(upto(runners)) - set(head_of))


def model_pool(line, races):
    found = re.fullmatch(POOL, line)
    if found is None:
        return None
    name, kind, none = found[1], found[2].decode(), found[9]
    k, race, take, brk, least, unit = [int(found[at]) for at in range(3, 9)]
    low, high = {"place": (1, 4), "order": (2, 4), "any": (2, 3), "legs": (2, 6)}[kind]
    sets_of = races[race - 1:race - 1 + (k if kind == "legs" else 1)] if race else []
    good = (low <= k <= high and 1 <= race <= len(races) and take <= 400 and 1 <= brk <= 1000
            and 1 <= unit <= 10000 and (least == 0 or unit <= least <= 2 * unit)
            and not (kind == "place" and none == b"fewer")
            and (len(sets_of) == k if kind == "legs" else len(sets_of[0]) >= k))
    return (name, kind, k, sets_of) if good else None


def model_card(text):
    """The pools of a card, each as its name, kind, k and sets; None if the text is no card."""
    found = CARD.fullmatch(bytes(text))
    if found is None:
        return None
    races = [model_race(line) for line in found[1].splitlines(keepends=True)]
    if None in races:
        return None
    pools = [model_pool(line, races) for line in found[2].splitlines(keepends=True)]
    if None in pools or len({pool[0] for pool in pools}) < len(pools):
        return None
    return pools


def model_asked(pool, text):
    """0 and the kind, k and sets of the pool that is asked for, or the refusal and nothing."""
    if len(text) > 65536:
        return -2, None
    pools = model_card(text)
    if pools is None:
        return -6, None
    return (0, pools[pool][1:]) if pool < len(pools) else (-4, None)


def model_sets(pool, text):
    refusal, asked = model_asked(pool, text)
    return [refusal] if asked is None else told(*asked[2])


def model_rows(kind, k, sets_of):
    """All combinations, one by one in the order of rows: every row over the sets, less those that are none."""
    if kind == "place":
        return [[one] for one in sets_of[0]]
    if kind == "legs":
        return sorted(list(row) for row in itertools.product(*sets_of))
    rows = sorted(list(row) for row in itertools.product(sets_of[0], repeat=k))
    if kind == "order":
        return [row for row in rows if len(set(row)) == k]
    return [row for row in rows if all(one < other for one, other in zip(row, row[1:]))]


# Races of some interests and of few, with couples and without.
SMALL_RACES = ("4", "6 couple 2 5", "3", "7 couple 1 7 couple 3 4 couple 3 5", "2", "5 couple 4 5", "3 couple 1 2",
               "6 couple 1 2 couple 1 3 couple 1 4 couple 1 5 couple 1 6")


def small_pools(kinds=EACH_KIND):
    """Small pools of these kinds from each race that can have them: what to call it, the text, all combinations."""
    found = []
    for kind in kinds:
        for race in range(1, len(SMALL_RACES) + 1):
            text = text_of(card_of(SMALL_RACES, [pool_line(kind, race)]))
            refusal, asked = model_asked(0, text)
            if asked is not None:
                found.append((f"{kind} from {race}", text, model_rows(*asked)))
    return found
