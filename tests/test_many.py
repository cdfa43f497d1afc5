"""What many answers: of each kind and each k, at the edges, and against all combinations one by one."""

import unittest

from tests.helper import EACH_KIND, card_of, pool_line, small_pools, text_of
from totecombos.pools import many


def ask(kind, races=("4",), race=1):
    return many(0, text_of(card_of(races, [pool_line(kind, race)])))


class OneRace(unittest.TestCase):
    def test_place_is_one_of_the_set_whatever_k(self):
        for k in (1, 2, 3, 4):
            with self.subTest(k=k):
                self.assertEqual(ask(f"place {k}", ["9"]), [0, 9])
                self.assertEqual(ask(f"place {k}", ["9 couple 1 2 couple 1 3"]), [0, 7])
                self.assertEqual(ask(f"place {k}", ["24"]), [0, 24])
                self.assertEqual(ask(f"place {k}", ["4"]), [0, 4])

    def test_order(self):
        for k, expected in ((2, 9 * 8), (3, 9 * 8 * 7), (4, 9 * 8 * 7 * 6)):
            self.assertEqual(ask(f"order {k}", ["9"]), [0, expected])
        for k, expected in ((2, 7 * 6), (3, 7 * 6 * 5), (4, 7 * 6 * 5 * 4)):
            self.assertEqual(ask(f"order {k}", ["9 couple 1 9 couple 2 4"]), [0, expected])

    def test_any(self):
        for k, expected in ((2, 36), (3, 84)):
            self.assertEqual(ask(f"any {k}", ["9"]), [0, expected])
        for k, expected in ((2, 21), (3, 35)):
            self.assertEqual(ask(f"any {k}", ["9 couple 1 9 couple 2 4"]), [0, expected])

    def test_another_races_runners_do_not_count(self):
        for kind, expected in (("place 2", 5), ("order 2", 20), ("any 3", 10)):
            self.assertEqual(ask(kind, ["3", "6 couple 4 6", "24"], 2), [0, expected])

    def test_as_many_interests_as_k(self):
        for kind, expected in (("place 1", 1), ("place 2", 2), ("place 3", 3), ("place 4", 4), ("order 2", 2),
                               ("order 3", 6), ("order 4", 24), ("any 2", 1), ("any 3", 1)):
            k = int(kind[-1])
            with self.subTest(kind):
                self.assertEqual(ask(kind, [f"{k + 1} couple 1 2"]), [0, expected])
                if k > 1:
                    self.assertEqual(ask(kind, [f"{k}"]), [0, expected])

    def test_two_runners(self):
        for kind, expected in (("place 1", 2), ("place 2", 2), ("order 2", 2), ("any 2", 1)):
            self.assertEqual(ask(kind, ["2"]), [0, expected])
        self.assertEqual(ask("place 1", ["2 couple 1 2"]), [0, 1])

    def test_the_most_runners(self):
        for kind, expected in (("place 4", 24), ("order 2", 552), ("order 3", 12144), ("order 4", 255024),
                               ("any 2", 276), ("any 3", 2024)):
            self.assertEqual(ask(kind, ["24"]), [0, expected])


class Legs(unittest.TestCase):
    RACES = ["2", "3 couple 1 3", "4", "5 couple 1 2 couple 4 5", "6", "7", "24", "2 couple 1 2"]

    def test_races_of_unlike_sizes(self):
        for k, race, expected in ((2, 1, 2 * 2), (3, 1, 2 * 2 * 4), (4, 2, 2 * 4 * 3 * 6), (5, 2, 2 * 4 * 3 * 6 * 7),
                                  (6, 2, 2 * 4 * 3 * 6 * 7 * 24), (6, 3, 4 * 3 * 6 * 7 * 24), (2, 7, 24)):
            with self.subTest(k=k, race=race):
                self.assertEqual(ask(f"legs {k}", self.RACES, race), [0, expected])

    def test_the_fewest(self):
        for k in (2, 3, 4, 5, 6):
            self.assertEqual(ask(f"legs {k}", ["2 couple 1 2"] * k), [0, 1])
            self.assertEqual(ask(f"legs {k}", ["2"] * k), [0, (4, 8, 16, 32, 64)[k - 2]])

    def test_the_most(self):
        for k, expected in ((2, 576), (3, 13824), (4, 331776), (5, 7962624), (6, 191102976)):
            self.assertEqual(ask(f"legs {k}", ["24"] * 6), [0, expected])
            self.assertEqual(ask(f"legs {k}", ["24"] * 16, 17 - k), [0, expected])


class OneByOne(unittest.TestCase):
    def test_small_pools(self):
        for name, text, rows in small_pools():
            with self.subTest(name):
                self.assertEqual(many(0, text), [0, len(rows)])

    def test_there_are_small_pools_of_each_kind(self):
        self.assertEqual({name.partition(" from")[0] for name, text, rows in small_pools()}, set(EACH_KIND))

    def test_each_pool_of_a_card_by_its_number(self):
        kinds = ("any 2", "legs 3", "place 3", "order 3", "place 1")
        pools = [pool_line(kind, name=f"p{at}") for at, kind in enumerate(kinds)]
        text = text_of(card_of(["6 couple 2 3", "3", "2"], pools))
        self.assertEqual([many(pool, text) for pool in range(6)], [[0, 10], [0, 30], [0, 5], [0, 60], [0, 5], [-4]])


if __name__ == "__main__":
    unittest.main()
