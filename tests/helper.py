"""What the tests share: building cards, asking, and a second reading of the document to compare with."""

import re

from totecombos.pools import sets

NO_CARD = [-6]


def text_of(words):
    """The list of bytes of a str or of bytes."""
    return list(words if isinstance(words, bytes) else words.encode("latin-1"))


def ask(card, pool=0):
    return sets(pool, text_of(card))


def pool_line(kind="place 1", race=1, name="p", take=0, brk=1, least=0, unit=1, none="refund"):
    return f"pool {name} {kind} from {race} take {take} break {brk} least {least} unit {unit} none {none}\n"


def card_of(races=("4",), pools=None, day="d"):
    """A card: races as what stands behind the word race, pools as whole lines."""
    lines = [pool_line()] if pools is None else pools
    return f"day {day}\n" + "".join(f"race {race}\n" for race in races) + "".join(lines)


def told(*interests):
    """The answer that tells these sets."""
    answer = [0, len(interests)]
    for one in interests:
        answer += [len(one)] + list(one)
    return answer


def upto(runners):
    return list(range(1, runners + 1))


# The second reading: by patterns over the whole text, in another way than the program's.
NAME = rb"[a-z][a-z0-9]{0,11}"
NUMBER = rb"(?:0|[1-9][0-9]{0,5})"
RACE = rb"race (%b)((?: couple %b %b){0,8})\n" % (NUMBER, NUMBER, NUMBER)
POOL = (rb"pool (%b) (place|order|any|legs) (%b) from (%b) take (%b) break (%b) least (%b) unit (%b) "
        rb"none (refund|carry|fewer)\n") % ((NAME,) + (NUMBER,) * 6)
CARD = re.compile(rb"day %b\n((?:race [^\n]*\n){1,16})((?:pool [^\n]*\n){0,64})" % NAME)


def model_race(line):
    found = re.fullmatch(RACE, line)
    if found is None or not 2 <= int(found[1]) <= 24:
        return None
    runners = int(found[1])
    head_of = {}
    for a, b in re.findall(rb" couple (\d+) (\d+)", found[2]):
        a, b = int(a), int(b)
        if not 1 <= a < b <= runners or a in head_of or b in head_of or b in head_of.values():
            return None
        head_of[b] = a
    return sorted(set(upto(runners)) - set(head_of))


def model_pool(line, races):
    found = re.fullmatch(POOL, line)
    if found is None:
        return None
    name, kind, none = found[1], found[2].decode(), found[9]
    k, race, take, brk, least, unit = [int(found[at]) for at in range(3, 9)]
    low, high = {"place": (1, 4), "order": (2, 4), "any": (2, 3), "legs": (2, 6)}[kind]
    sets_of = races[race - 1:race - 1 + (k if kind == "legs" else 1)] if race else []
    good = (low <= k <= high and 1 <= race <= len(races) and take <= 400 and 1 <= brk <= 1000
            and 1 <= unit <= 10000 and (least == 0 or unit <= least <= 2 * unit)
            and not (kind == "place" and none == b"fewer")
            and (len(sets_of) == k if kind == "legs" else len(sets_of[0]) >= k))
    return (name, sets_of) if good else None


def model_sets(pool, text):
    if len(text) > 65536:
        return [-2]
    found = CARD.fullmatch(bytes(text))
    if found is None:
        return [-6]
    races = [model_race(line) for line in found[1].splitlines(keepends=True)]
    if None in races:
        return [-6]
    pools = [model_pool(line, races) for line in found[2].splitlines(keepends=True)]
    if None in pools or len({name for name, sets_of in pools}) < len(pools):
        return [-6]
    return told(*pools[pool][1]) if pool < len(pools) else [-4]
