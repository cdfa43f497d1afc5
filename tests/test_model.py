"""The program and a second reading of the document answer alike, on very many cards and near-cards."""

import random
import unittest

from tests.helper import card_of, model_sets, pool_line, text_of
from totecombos.pools import sets

WORDS = ("day", "race", "couple", "pool", "place", "order", "any", "legs", "from", "take", "break", "least", "unit",
         "none", "refund", "carry", "fewer", "0", "1", "2", "3", "4", "5", "6", "7", "8", "16", "17", "24", "25", "400",
         "401", "1000", "1001", "10000", "10001", "20000", "00", "01", "a", "abcdefghijkl", "abcdefghijklm", "")


def some_race(chance):
    runners = chance.randint(2, 24)
    words = str(runners)
    for at in range(chance.choice((0, 0, 1, 2, 3, 8))):
        first = chance.randint(1, runners - 1)
        words += f" couple {first} {chance.randint(first + 1, runners)}"
    return words


def some_pool(chance, races, at):
    kind = chance.choice(("place", "order", "any", "legs"))
    k = chance.choice((1, 2, 2, 2, 3, 3, 4)) if chance.random() < 0.3 else 2
    unit = chance.choice((1, 2, 100, 9999, 10000))
    least = chance.choice((0, unit, 2 * unit))
    none = chance.choice(("refund", "carry"))
    return pool_line(f"{kind} {k}", chance.randint(1, races), f"p{at}", chance.choice((0, 150, 400)),
                     chance.choice((1, 10, 1000)), least, unit, none)


def some_card(chance):
    races = [some_race(chance) for at in range(chance.choice((1, 2, 3, 6, 16)))]
    pools = [some_pool(chance, len(races), at) for at in range(chance.choice((0, 1, 2, 5)))]
    return card_of(races, pools)


def changed(chance, card):
    """The card with one place of it changed."""
    way = chance.randrange(5)
    if way < 3:
        words = card.replace("\n", " \n ").split(" ")
        at = chance.randrange(len(words))
        put = ([chance.choice(WORDS)], [], [words[at], chance.choice(WORDS)])[way]
        return " ".join(words[:at] + put + words[at + 1:]).replace(" \n ", "\n")
    if way == 3:
        lines = card.splitlines(keepends=True)
        chance.shuffle(lines)
        return "".join(lines)
    at = chance.randrange(len(card) + 1)
    return card[:at] + chr(chance.choice((10, 32, 48, 49, 97, chance.randrange(256)))) + card[at + chance.randrange(2):]


class Alike(unittest.TestCase):
    def alike(self, card):
        text = text_of(card)
        for pool in (0, 1, 4):
            expected = model_sets(pool, text)
            self.assertEqual(sets(pool, text), expected, (pool, card))
        return expected[0]

    def test_whole_cards(self):
        chance = random.Random(1)
        seen = {self.alike(some_card(chance)) for at in range(3000)}
        self.assertEqual(seen, {0, -4, -6})

    def test_changed_cards(self):
        chance = random.Random(2)
        seen = {self.alike(changed(chance, some_card(chance))) for at in range(6000)}
        self.assertEqual(seen, {0, -4, -6})


if __name__ == "__main__":
    unittest.main()
