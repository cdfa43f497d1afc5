"""The program and a second reading of the document answer alike, on very many cards and near-cards."""

import random
import unittest

from tests.helper import EACH_KIND, LAST, card_of, model_asked, model_rows, model_sets, pool_line, text_of
from totecombos.pools import many, next_of, number, of, sets

WORDS = ("day", "race", "couple", "pool", "place", "order", "any", "legs", "from", "take", "break", "least", "unit",
         "none", "refund", "carry", "fewer", "0", "1", "2", "3", "4", "5", "6", "7", "8", "16", "17", "24", "25", "400",
         "401", "1000", "1001", "10000", "10001", "20000", "00", "01", "a", "abcdefghijkl", "abcdefghijklm", "")


def some_race(chance):
    runners = chance.randint(2, 24)
    words = str(runners)
    for at in range(chance.choice((0, 0, 1, 2, 3, 8))):
        first = chance.randint(1, runners - 1)
        words += f" couple {first} {chance.randint(first + 1, runners)}"
    return words


def some_pool(chance, races, at):
    kind = chance.choice(("place", "order", "any", "legs"))
    k = chance.choice((1, 2, 2, 2, 3, 3, 4)) if chance.random() < 0.3 else 2
    unit = chance.choice((1, 2, 100, 9999, 10000))
    least = chance.choice((0, unit, 2 * unit))
    none = chance.choice(("refund", "carry"))
    return pool_line(f"{kind} {k}", chance.randint(1, races), f"p{at}", chance.choice((0, 150, 400)),
                     chance.choice((1, 10, 1000)), least, unit, none)


def some_card(chance):
    races = [some_race(chance) for at in range(chance.choice((1, 2, 3, 6, 16)))]
    pools = [some_pool(chance, len(races), at) for at in range(chance.choice((0, 1, 2, 5)))]
    return card_of(races, pools)


def changed(chance, card):
    """The card with one place of it changed."""
    way = chance.randrange(5)
    if way < 3:
        words = card.replace("\n", " \n ").split(" ")
        at = chance.randrange(len(words))
        put = ([chance.choice(WORDS)], [], [words[at], chance.choice(WORDS)])[way]
        return " ".join(words[:at] + put + words[at + 1:]).replace(" \n ", "\n")
    if way == 3:
        lines = card.splitlines(keepends=True)
        chance.shuffle(lines)
        return "".join(lines)
    at = chance.randrange(len(card) + 1)
    return card[:at] + chr(chance.choice((10, 32, 48, 49, 97, chance.randrange(256)))) + card[at + chance.randrange(2):]


class Alike(unittest.TestCase):
    def alike(self, card):
        text = text_of(card)
        for pool in (0, 1, 4):
            expected = model_sets(pool, text)
            self.assertEqual(sets(pool, text), expected, (pool, card))
        return expected[0]

    def test_whole_cards(self):
        chance = random.Random(1)
        seen = {self.alike(some_card(chance)) for at in range(3000)}
        self.assertEqual(seen, {0, -4, -6})

    def test_changed_cards(self):
        chance = random.Random(2)
        seen = {self.alike(changed(chance, some_card(chance))) for at in range(6000)}
        self.assertEqual(seen, {0, -4, -6})


def some_small_card(chance):
    """A card of one to six races of few runners, with some pools, often but not always a good one."""
    races = []
    for at in range(chance.choice((1, 2, 4, 6, 6))):
        runners = chance.randint(2, 6)
        couples = chance.choice(("", "", f" couple 1 {runners}", f" couple {runners - 1} {runners}"))
        races.append(f"{runners}{couples}")
    pools = [pool_line(chance.choice(EACH_KIND), chance.choice((1, 1, 1, len(races))), f"p{at}")
             for at in range(chance.randint(1, 3))]
    return card_of(races, pools)


def some_row(chance, rows):
    """A combination, or one with something changed, or any row."""
    row = list(chance.choice(rows))
    way = chance.randrange(6)
    if way == 1:
        row[chance.randrange(len(row))] = chance.choice((0, 1, 2, 3, 4, 5, 6, 7, LAST))
    if way == 2:
        chance.shuffle(row)
    if way == 3:
        row.pop(chance.randrange(len(row)))
    if way == 4:
        row.insert(chance.randrange(len(row) + 1), chance.randint(0, 7))
    if way == 5:
        row = [chance.randint(0, 7) for at in range(chance.randint(0, 7))]
    return row


class AllCallsAlike(unittest.TestCase):
    def refused(self, pool, text, refusal):
        answers = [many(pool, text), number(pool, text, [1]), of(pool, 0, text), next_of(pool, 0, 1, text)]
        self.assertEqual(answers, [[refusal]] * 4, bytes(text))

    def answered(self, chance, pool, text, rows):
        row = some_row(chance, rows)
        at = chance.randrange(len(rows) + 2)
        runner = chance.randint(0, 7)
        behind = [later for later in range(at, len(rows)) if runner in rows[later]]
        asked = (pool, bytes(text), row, at, runner)
        self.assertEqual(many(pool, text), [0, len(rows)], asked)
        self.assertEqual(number(pool, text, row), [0, rows.index(row)] if row in rows else [-1], asked)
        self.assertEqual(of(pool, at, text), [0] + rows[at] if at < len(rows) else [-1], asked)
        self.assertEqual(next_of(pool, at, runner, text), [0, behind[0]] if behind else [-1], asked)

    def test_small_cards(self):
        chance = random.Random(3)
        seen = set()
        for turn in range(2500):
            text = text_of(some_small_card(chance))
            for pool in (0, 1, 2, 3):
                refusal, asked = model_asked(pool, text)
                if asked is None:
                    self.refused(pool, text, refusal)
                    seen.add(refusal)
                elif asked[0] != "legs" or asked[1] < 5 or turn % 5 == 0:
                    self.answered(chance, pool, text, model_rows(*asked))
                    seen.add(f"{asked[0]} {asked[1]}")
        self.assertEqual(seen, {-4, -6, *EACH_KIND})


if __name__ == "__main__":
    unittest.main()
