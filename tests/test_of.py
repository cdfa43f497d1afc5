"""What of answers: of each kind and each k, against all combinations one by one, and of numbers that are none's."""

import unittest

from tests.helper import LAST, Frozen, card_of, pool_line, small_pools, text_of
from totecombos.pools import many, number, of

NONE = [-1]


def text_with(kind, races=("4",), race=1):
    return text_of(card_of(races, [pool_line(kind, race)]))


class Combinations(unittest.TestCase):
    def stand_so(self, kind, races, rows):
        """rows: all combinations, written out in their order."""
        text = text_with(kind, races)
        for at, row in enumerate(rows):
            self.assertEqual(of(0, at, text), [0] + list(row), (kind, at))
        self.assertEqual(of(0, len(rows), text), NONE, kind)

    def test_place(self):
        for k in (1, 2, 3, 4):
            self.stand_so(f"place {k}", ["4"], [(1,), (2,), (3,), (4,)])
            self.stand_so(f"place {k}", ["6 couple 2 3 couple 1 6"], [(1,), (2,), (4,), (5,)])
        self.stand_so("place 1", ["2 couple 1 2"], [(1,)])

    def test_order(self):
        self.stand_so("order 2", ["3"], [(1, 2), (1, 3), (2, 1), (2, 3), (3, 1), (3, 2)])
        self.stand_so("order 2", ["4 couple 1 2"], [(1, 3), (1, 4), (3, 1), (3, 4), (4, 1), (4, 3)])
        self.stand_so("order 3", ["3"], [(1, 2, 3), (1, 3, 2), (2, 1, 3), (2, 3, 1), (3, 1, 2), (3, 2, 1)])

    def test_any(self):
        self.stand_so("any 2", ["4"], [(1, 2), (1, 3), (1, 4), (2, 3), (2, 4), (3, 4)])
        self.stand_so("any 2", ["4 couple 2 3"], [(1, 2), (1, 4), (2, 4)])
        self.stand_so("any 3", ["5 couple 2 3"], [(1, 2, 4), (1, 2, 5), (1, 4, 5), (2, 4, 5)])
        self.stand_so("any 3", ["3"], [(1, 2, 3)])

    def test_legs(self):
        self.stand_so("legs 2", ["3 couple 1 2", "3"], [(1, 1), (1, 2), (1, 3), (3, 1), (3, 2), (3, 3)])
        self.stand_so("legs 3", ["2", "3 couple 2 3", "2 couple 1 2"], [(1, 1, 1), (1, 2, 1), (2, 1, 1), (2, 2, 1)])

    def test_some_between(self):
        self.assertEqual(of(0, 7, text_with("place 2", ["24 couple 1 5"])), [0, 9])
        self.assertEqual(of(0, 11 * 23 + 4, text_with("order 2", ["24"])), [0, 12, 5])
        self.assertEqual(of(0, 4 * 23 + 10, text_with("order 2", ["24"])), [0, 5, 12])
        self.assertEqual(of(0, 23 * 22 * 21 + 21, text_with("order 4", ["24"])), [0, 2, 1, 4, 3])
        self.assertEqual(of(0, 23 + 22 + 3, text_with("any 2", ["24"])), [0, 3, 7])
        self.assertEqual(of(0, 253 + 1, text_with("any 3", ["24"])), [0, 2, 3, 5])
        self.assertEqual(of(0, 26, text_with("legs 6", ["24"] * 6)), [0, 1, 1, 1, 1, 2, 3])
        self.assertEqual(of(0, 45, text_with("legs 3", ["3", "4 couple 1 4", "7 couple 2 3"])), [0, 3, 2, 5])

    def test_the_pool_that_is_asked_for(self):
        pools = [pool_line("any 2", name="a"), pool_line("order 2", name="b"), pool_line("place 2", name="c")]
        text = text_of(card_of(["3"], pools))
        self.assertEqual([of(pool, 2, text) for pool in range(4)], [[0, 2, 3], [0, 2, 1], [0, 3], [-4]])


class OneByOne(unittest.TestCase):
    def test_small_pools(self):
        for name, text, rows in small_pools():
            for at, row in enumerate(rows):
                self.assertEqual(of(0, at, text), [0] + row, (name, at))
            for behind in (len(rows), len(rows) + 1, 2 * len(rows), LAST):
                self.assertEqual(of(0, behind, text), NONE, (name, behind))

    def test_of_and_number_undo_one_another(self):
        for name, text, rows in small_pools()[::3]:
            for at, row in enumerate(rows):
                self.assertEqual(number(0, text, of(0, at, text)[1:]), [0, at], (name, at))
                self.assertEqual(of(0, number(0, text, row)[1], text), [0] + row, (name, row))

    def test_of_and_number_undo_one_another_in_great_pools(self):
        for kind in ("order 4", "any 3", "legs 4", "legs 6"):
            text = text_with(kind, ["24", "23 couple 1 2", "24 couple 3 24", "22", "24", "24"])
            most = many(0, text)[1]
            before = []
            for at in range(0, most, most // 97):
                row = of(0, at, text)[1:]
                self.assertLess(before, row, (kind, at))
                self.assertEqual(number(0, text, row), [0, at], (kind, at))
                before = row


class Edges(unittest.TestCase):
    LAST_ROWS = (("place 1", [24], 24), ("place 4", [24], 24), ("order 2", [24, 23], 552),
                 ("order 3", [24, 23, 22], 12144), ("order 4", [24, 23, 22, 21], 255024), ("any 2", [23, 24], 276),
                 ("any 3", [22, 23, 24], 2024), ("legs 2", [24] * 2, 576), ("legs 3", [24] * 3, 13824),
                 ("legs 4", [24] * 4, 331776), ("legs 5", [24] * 5, 7962624), ("legs 6", [24] * 6, 191102976))

    def test_the_last_and_the_number_behind_it(self):
        for kind, row, most in self.LAST_ROWS:
            text = text_with(kind, ["24"] * 6)
            with self.subTest(kind):
                self.assertEqual(of(0, most - 1, text), [0] + row)
                self.assertEqual(of(0, most, text), NONE)
                self.assertEqual(of(0, most + 1, text), NONE)

    def test_the_first(self):
        for kind, row, most in self.LAST_ROWS:
            first = [1] * len(row) if kind.startswith("legs") else list(range(1, len(row) + 1))
            self.assertEqual(of(0, 0, text_with(kind, ["24"] * 6)), [0] + first, kind)

    def test_numbers_up_to_the_greatest(self):
        for kind, row, most in self.LAST_ROWS:
            text = text_with(kind, ["24"] * 6)
            for at in (191102976, 2147483647, 2147483648, LAST - 1, LAST):
                self.assertEqual(of(0, at, text), NONE, (kind, at))

    def test_refusals_before_no_such_number(self):
        text = text_with("order 2")
        for at in (12, 13, LAST):
            self.assertEqual(of(0, at, text), NONE)
            self.assertEqual(of(1, at, text), [-4])
            self.assertEqual(of(LAST, at, text), [-4])
            self.assertEqual(of(0, at, text[:-1]), [-6])
            self.assertEqual(of(LAST, at, text[:-1]), [-6])
            self.assertEqual(of(LAST, at, [10] * 65536), [-6])
            self.assertEqual(of(LAST, at, [10] * 65537), [-2])

    def test_the_text_is_the_same_afterwards(self):
        for kind, row, most in self.LAST_ROWS:
            text = text_with(kind, ["24"] * 6)
            for at in (0, most // 2, most - 1, most, LAST):
                handed = list(text)
                answer = of(0, at, handed)
                self.assertEqual(handed, text)
                self.assertEqual(of(0, at, handed), answer)
                self.assertEqual(of(0, at, Frozen(text)), answer)


if __name__ == "__main__":
    unittest.main()
