"""What number answers: of each kind and each k, against all combinations one by one, and of rows that are none."""

import itertools
import unittest

from tests.helper import LAST, Frozen, card_of, pool_line, small_pools, text_of
from totecombos.pools import number

NONE = [-1]


def ask(kind, row, races=("4",), race=1):
    return number(0, text_of(card_of(races, [pool_line(kind, race)])), row)


class Numbers(unittest.TestCase):
    def numbered(self, kind, races, rows):
        """rows: all combinations, written out in their order."""
        for at, row in enumerate(rows):
            self.assertEqual(ask(kind, list(row), races), [0, at], (kind, row))

    def test_place(self):
        for k in (1, 2, 3, 4):
            self.numbered(f"place {k}", ["4"], [(1,), (2,), (3,), (4,)])
            self.numbered(f"place {k}", ["6 couple 2 3 couple 1 6"], [(1,), (2,), (4,), (5,)])

    def test_order(self):
        self.numbered("order 2", ["3"], [(1, 2), (1, 3), (2, 1), (2, 3), (3, 1), (3, 2)])
        self.numbered("order 2", ["4 couple 1 2"], [(1, 3), (1, 4), (3, 1), (3, 4), (4, 1), (4, 3)])
        self.numbered("order 3", ["3"], [(1, 2, 3), (1, 3, 2), (2, 1, 3), (2, 3, 1), (3, 1, 2), (3, 2, 1)])
        self.numbered("order 3", ["5 couple 1 4"],
                      [(1, 2, 3), (1, 2, 5), (1, 3, 2), (1, 3, 5), (1, 5, 2), (1, 5, 3), (2, 1, 3), (2, 1, 5)])

    def test_any(self):
        self.numbered("any 2", ["4"], [(1, 2), (1, 3), (1, 4), (2, 3), (2, 4), (3, 4)])
        self.numbered("any 2", ["4 couple 2 3"], [(1, 2), (1, 4), (2, 4)])
        self.numbered("any 3", ["5 couple 2 3"], [(1, 2, 4), (1, 2, 5), (1, 4, 5), (2, 4, 5)])
        self.numbered("any 3", ["3"], [(1, 2, 3)])

    def test_legs(self):
        self.numbered("legs 2", ["3 couple 1 2", "3"], [(1, 1), (1, 2), (1, 3), (3, 1), (3, 2), (3, 3)])
        self.numbered("legs 3", ["2", "3 couple 2 3", "2 couple 1 2"], [(1, 1, 1), (1, 2, 1), (2, 1, 1), (2, 2, 1)])

    def test_the_first_and_the_last_of_the_most_runners(self):
        for kind, first, last, most in (
                ("place 4", [1], [24], 24), ("order 2", [1, 2], [24, 23], 552),
                ("order 3", [1, 2, 3], [24, 23, 22], 12144), ("order 4", [1, 2, 3, 4], [24, 23, 22, 21], 255024),
                ("any 2", [1, 2], [23, 24], 276),
                ("any 3", [1, 2, 3], [22, 23, 24], 2024), ("legs 2", [1] * 2, [24] * 2, 576),
                ("legs 3", [1] * 3, [24] * 3, 13824), ("legs 4", [1] * 4, [24] * 4, 331776),
                ("legs 5", [1] * 5, [24] * 5, 7962624), ("legs 6", [1] * 6, [24] * 6, 191102976)):
            with self.subTest(kind):
                self.assertEqual(ask(kind, first, ["24"] * 6), [0, 0])
                self.assertEqual(ask(kind, last, ["24"] * 6), [0, most - 1])

    def test_some_between(self):
        self.assertEqual(ask("place 2", [9], ["24 couple 1 5"]), [0, 7])
        self.assertEqual(ask("order 2", [12, 5], ["24"]), [0, 11 * 23 + 4])
        self.assertEqual(ask("order 2", [5, 12], ["24"]), [0, 4 * 23 + 10])
        self.assertEqual(ask("order 4", [2, 1, 4, 3], ["24"]), [0, 23 * 22 * 21 + 1 * 21])
        self.assertEqual(ask("any 2", [3, 7], ["24"]), [0, 23 + 22 + 3])
        self.assertEqual(ask("any 3", [2, 3, 5], ["24"]), [0, 253 + 1])
        self.assertEqual(ask("legs 6", [1, 1, 1, 1, 2, 3], ["24"] * 6), [0, 26])
        self.assertEqual(ask("legs 3", [3, 2, 5], ["3", "4 couple 1 4", "7 couple 2 3"]), [0, 2 * 18 + 1 * 6 + 3])

    def test_the_pool_that_is_asked_for(self):
        pools = [pool_line("any 2", name="a"), pool_line("order 2", name="b"), pool_line("place 2", name="c")]
        text = text_of(card_of(["3"], pools))
        self.assertEqual([number(pool, text, [2, 3]) for pool in range(4)], [[0, 2], [0, 3], NONE, [-4]])


class OneByOne(unittest.TestCase):
    def test_small_pools(self):
        for name, text, rows in small_pools():
            for at, row in enumerate(rows):
                self.assertEqual(number(0, text, row), [0, at], (name, row))

    def test_every_short_row_over_small_pools(self):
        kinds = ("place 1", "place 3", "order 2", "order 3", "any 2", "any 3", "legs 2", "legs 3")
        short = [list(row) for length in range(5) for row in itertools.product(range(6), repeat=length)]
        for name, text, rows in small_pools(kinds)[::5]:
            numbers = {tuple(row): at for at, row in enumerate(rows)}
            for row in short:
                expected = [0, numbers[tuple(row)]] if tuple(row) in numbers else NONE
                self.assertEqual(number(0, text, row), expected, (name, row))


class NoCombinations(unittest.TestCase):
    RACES = ["6 couple 2 5", "7 couple 1 4", "5", "4", "3", "9"]
    GOOD = {"place 1": [3], "place 4": [6], "order 2": [6, 1], "order 3": [4, 1, 6], "order 4": [3, 1, 6, 2],
            "any 2": [2, 6], "any 3": [1, 3, 4], "legs 2": [6, 7], "legs 3": [6, 5, 5], "legs 4": [1, 2, 3, 4],
            "legs 5": [6, 7, 5, 4, 3], "legs 6": [1, 1, 1, 1, 1, 9]}

    def each(self):
        for kind, row in self.GOOD.items():
            self.assertEqual(ask(kind, row, self.RACES)[0], 0, (kind, row))
            yield kind, row

    def none(self, kind, row):
        self.assertEqual(ask(kind, row, self.RACES), NONE, (kind, row))

    def test_an_empty_row(self):
        for kind, row in self.each():
            self.none(kind, [])

    def test_a_number_too_few(self):
        for kind, row in self.each():
            for at in range(len(row)):
                self.none(kind, row[:at] + row[at + 1:])

    def test_a_number_too_many(self):
        for kind, row in self.each():
            for one in (0, 1, 2, 3, 4, 5, 6, 7, 9, LAST):
                for at in range(len(row) + 1):
                    self.none(kind, row[:at] + [one] + row[at:])

    def test_forty_numbers(self):
        for kind, row in self.each():
            self.none(kind, row + [1] * (40 - len(row)))
            self.none(kind, list(range(1, 41)))
            self.none(kind, [0] * 40)
            self.none(kind, [LAST] * 40)

    def test_a_number_that_is_in_no_set(self):
        for kind, row in self.each():
            for one in (0, 10, 23, 24, 25, 255, 256, 257, 65536, 2147483648, LAST - 1, LAST):
                for at in range(len(row)):
                    self.none(kind, row[:at] + [one] + row[at + 1:])

    def test_a_number_above_the_runners(self):
        for kind, row in self.each():
            for at in range(len(row)):
                runners = int(self.RACES[at if kind.startswith("legs") else 0][0])
                self.none(kind, row[:at] + [runners + 1] + row[at + 1:])

    def test_a_runner_that_is_no_head(self):
        for kind, row in self.each():
            for at in range(len(row)):
                second = {0: 5, 1: 4}.get(at) if kind.startswith("legs") else 5
                if second is not None:
                    self.none(kind, row[:at] + [second] + row[at + 1:])

    def test_the_same_twice(self):
        for kind, row in self.each():
            if not kind.startswith("legs"):
                for at, other in itertools.permutations(range(len(row)), 2):
                    self.none(kind, row[:at] + [row[other]] + row[at + 1:])

    def test_the_same_twice_is_good_in_legs(self):
        self.assertEqual(ask("legs 3", [3, 3, 3], self.RACES), [0, 2 * 30 + 2 * 5 + 2])

    def test_any_rises(self):
        for row in itertools.permutations([1, 3, 4]):
            if row != (1, 3, 4):
                self.none("any 3", list(row))
        self.none("any 2", [6, 2])
        self.none("any 2", [2, 2])

    def test_a_number_of_another_legs_set(self):
        self.none("legs 2", [7, 6])
        self.none("legs 2", [5, 7])
        self.none("legs 2", [4, 4])
        self.none("legs 3", [6, 7, 6])
        self.none("legs 6", [9, 1, 1, 1, 1, 1])
        self.none("legs 6", [1, 1, 1, 1, 4, 1])

    def test_none_of_place_is_a_row_of_k(self):
        for row in ([1, 2], [1, 2, 3], [1, 2, 3, 4], [1, 1]):
            for k in (1, 2, 3, 4):
                self.none(f"place {k}", row)


class Order(unittest.TestCase):
    def test_refusals_before_no_combination(self):
        text = text_of(card_of())
        for row in ([], [0], [5], [1, 2], [LAST] * 40):
            self.assertEqual(number(0, text, row), NONE)
            self.assertEqual(number(1, text, row), [-4])
            self.assertEqual(number(LAST, text, row), [-4])
            self.assertEqual(number(LAST, text[:-1], row), [-6])
            self.assertEqual(number(0, text[:-1], row), [-6])
            self.assertEqual(number(LAST, [10] * 65536, row), [-6])
            self.assertEqual(number(LAST, [10] * 65537, row), [-2])


class HandedIn(unittest.TestCase):
    ROWS = {"place 2": [2], "order 3": [4, 1, 2], "any 2": [1, 3], "legs 2": [3, 1]}

    def test_the_row_and_the_text_are_the_same_afterwards(self):
        for kind, good in self.ROWS.items():
            text = text_of(card_of(["4", "4"], [pool_line(kind)]))
            for row in (good, good + [1], [0], [], [LAST] * 40):
                handed_text, handed_row = list(text), list(row)
                answer = number(0, handed_text, handed_row)
                self.assertEqual((handed_text, handed_row), (text, row), kind)
                self.assertEqual(number(0, handed_text, handed_row), answer, kind)
                self.assertEqual(number(0, Frozen(text), Frozen(row)), answer, kind)


if __name__ == "__main__":
    unittest.main()
