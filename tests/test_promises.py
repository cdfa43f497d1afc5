"""The promises B1 to B4, over cards with pools of each kind."""

import itertools
import unittest

from tests.helper import CALLS, EACH_KIND, LAST, card_of, pool_line, text_of
from totecombos.pools import choose, many, next_of, number, of, sets

RACES = ("5 couple 2 4", "6", "4 couple 1 3", "7 couple 3 5 couple 3 7", "2", "3")
FROM = {"place": 2, "order": 4, "any": 4, "legs": 1}


def lines_of(**words):
    """A pool of each kind and each k."""
    return [pool_line(kind, FROM[kind.split()[0]], f"p{at}", **words) for at, kind in enumerate(EACH_KIND)]


TEXT = text_of(card_of(RACES, lines_of()))
POOLS = range(len(EACH_KIND))


class B1AndB2(unittest.TestCase):
    def test_each_number_is_one_combinations(self):
        for pool in POOLS:
            most = many(pool, TEXT)[1]
            rows = [of(pool, at, TEXT) for at in range(most)]
            self.assertEqual({row[0] for row in rows}, {0}, EACH_KIND[pool])
            self.assertEqual(len({tuple(row) for row in rows}), most, EACH_KIND[pool])
            self.assertEqual([number(pool, TEXT, row[1:]) for row in rows], [[0, at] for at in range(most)])
            self.assertEqual(of(pool, most, TEXT), [-1])

    def test_each_row_that_has_a_number_is_found_again(self):
        for pool in POOLS:
            length = len(of(pool, 0, TEXT)) - 1
            if length <= 3:
                numbers = []
                for row in itertools.product(range(9), repeat=length):
                    answer = number(pool, TEXT, list(row))
                    if answer[0] == 0:
                        numbers.append(answer[1])
                        self.assertEqual(of(pool, answer[1], TEXT), [0] + list(row))
                # The rows are gone through in their order, so the numbers rise by one.
                self.assertEqual(numbers, list(range(many(pool, TEXT)[1])), EACH_KIND[pool])

    def test_they_stand_in_the_order_of_rows(self):
        for pool in POOLS:
            rows = [of(pool, at, TEXT)[1:] for at in range(many(pool, TEXT)[1])]
            self.assertEqual(rows, sorted(rows), EACH_KIND[pool])

    def test_the_numbers_of_a_combination_are_of_its_sets(self):
        for pool in POOLS:
            answer = sets(pool, TEXT)[2:]
            found = []
            while answer:
                found.append(answer[1:1 + answer[0]])
                answer = answer[1 + answer[0]:]
            for at in range(many(pool, TEXT)[1]):
                for place, one in enumerate(of(pool, at, TEXT)[1:]):
                    self.assertIn(one, found[place if EACH_KIND[pool].startswith("legs") else 0])


class B3(unittest.TestCase):
    def test_how_many(self):
        expected = {"place": [6] * 4, "order": [20, 60, 120], "any": [10, 10],
                    "legs": [4 * 6, 4 * 6 * 3, 4 * 6 * 3 * 5, 4 * 6 * 3 * 5 * 2, 4 * 6 * 3 * 5 * 2 * 3]}
        answers = [many(pool, TEXT) for pool in POOLS]
        self.assertEqual(answers, [[0, one] for kind in ("place", "order", "any", "legs") for one in expected[kind]])

    def test_any_is_as_many_as_choose_says(self):
        for runners in range(2, 25):
            for k in (2, 3):
                if k <= runners:
                    text = text_of(card_of([runners], [pool_line(f"any {k}")]))
                    self.assertEqual(many(0, text), choose(runners, k))

    def test_order_is_each_set_in_each_order(self):
        for runners in range(2, 25):
            for k, orders in ((2, 2), (3, 6), (4, 24)):
                if k <= runners:
                    text = text_of(card_of([runners], [pool_line(f"order {k}")]))
                    self.assertEqual(many(0, text)[1], orders * choose(runners, k)[1])


class B4(unittest.TestCase):
    OTHER_RACES = ("5 couple 2 4", "6", "4 couple 1 3", "7 couple 3 7 couple 3 5", "2", "3")
    TEXTS = (list(TEXT), text_of(card_of(OTHER_RACES, lines_of())), text_of(card_of(RACES, lines_of(), day="other")),
             text_of(card_of(RACES, lines_of(take=400, brk=7, least=11, unit=10, none="carry"))))

    def test_the_same_is_told(self):
        for text in self.TEXTS:
            for pool in (*POOLS, len(POOLS), LAST):
                for name, call in CALLS.items():
                    self.assertEqual(call(pool, text), call(pool, TEXT), name)

    def test_the_same_of_each_number(self):
        for text in self.TEXTS:
            for pool in POOLS:
                for at in range(0, many(pool, TEXT)[1] + 2, 7):
                    row = of(pool, at, TEXT)
                    self.assertEqual(of(pool, at, text), row)
                    self.assertEqual(number(pool, text, row[1:]), number(pool, TEXT, row[1:]))
                    self.assertEqual(next_of(pool, at, 3, text), next_of(pool, at, 3, TEXT))


if __name__ == "__main__":
    unittest.main()
