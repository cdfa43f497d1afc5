"""What sets answers of ordinary cards."""

import unittest

from tests.helper import ask, card_of, pool_line, text_of, told, upto
from totecombos.pools import sets


class OneSet(unittest.TestCase):
    def test_place_order_any_have_the_interests_of_their_race(self):
        for kind in ("place 1", "place 3", "order 2", "order 3", "any 2", "any 3"):
            with self.subTest(kind):
                card = card_of(["3", "5", "4"], [pool_line(kind, race=2)])
                self.assertEqual(ask(card), [0, 1, 5, 1, 2, 3, 4, 5])

    def test_a_couples_second_is_no_interest(self):
        card = card_of(["6 couple 2 5"])
        self.assertEqual(ask(card), [0, 1, 5, 1, 2, 3, 4, 6])

    def test_several_couples(self):
        card = card_of(["9 couple 4 7 couple 1 9 couple 2 3"])
        self.assertEqual(ask(card), told([1, 2, 4, 5, 6, 8]))

    def test_one_head_of_several_couples(self):
        card = card_of(["6 couple 1 2 couple 1 6 couple 1 4"])
        self.assertEqual(ask(card), told([1, 3, 5]))

    def test_couples_of_another_race_do_not_count(self):
        card = card_of(["4 couple 1 2", "4", "4 couple 3 4"], [pool_line(race=2)])
        self.assertEqual(ask(card), told([1, 2, 3, 4]))

    def test_a_second_may_be_so_in_two_races(self):
        card = card_of(["4 couple 1 2", "4 couple 1 2"], [pool_line("legs 2")])
        self.assertEqual(ask(card), told([1, 3, 4], [1, 3, 4]))

    def test_a_race_with_one_interest(self):
        self.assertEqual(ask(card_of(["2 couple 1 2"])), [0, 1, 1, 1])


class Legs(unittest.TestCase):
    RACES = ["2", "3 couple 1 3", "4", "5 couple 1 2 couple 4 5", "6", "7", "8"]

    def test_the_interests_of_each_race_in_turn(self):
        card = card_of(self.RACES, [pool_line("legs 3", race=2)])
        self.assertEqual(ask(card), [0, 3, 2, 1, 2, 4, 1, 2, 3, 4, 3, 1, 3, 4])

    def test_from_the_first_race(self):
        card = card_of(self.RACES, [pool_line("legs 2", race=1)])
        self.assertEqual(ask(card), told([1, 2], [1, 2]))

    def test_six_legs_up_to_the_last_race(self):
        card = card_of(self.RACES, [pool_line("legs 6", race=2)])
        self.assertEqual(ask(card), told([1, 2], upto(4), [1, 3, 4], upto(6), upto(7), upto(8)))

    def test_legs_ask_for_no_number_of_interests(self):
        card = card_of(["2 couple 1 2"] * 6, [pool_line("legs 6")])
        self.assertEqual(ask(card), told(*[[1]] * 6))


class SeveralPools(unittest.TestCase):
    CARD = card_of(
        ["5 couple 2 4", "7", "3"],
        [
            pool_line("place 2", race=1, name="win", take=150, brk=10, least=100, unit=100, none="carry"),
            pool_line("order 4", race=2, name="tri4", take=400, brk=1000, least=0, unit=10000, none="fewer"),
            pool_line("legs 2", race=2, name="double", take=250, brk=5, least=20000, unit=10000, none="carry"),
            pool_line("any 3", race=3, name="trio", take=1, brk=1, least=3, unit=2, none="fewer"),
        ],
        day="saturday7",
    )

    def test_each_pool_by_its_number(self):
        self.assertEqual(ask(self.CARD, 0), told([1, 2, 3, 5]))
        self.assertEqual(ask(self.CARD, 1), told(upto(7)))
        self.assertEqual(ask(self.CARD, 2), told(upto(7), upto(3)))
        self.assertEqual(ask(self.CARD, 3), told(upto(3)))

    def test_no_pool_behind_the_last(self):
        self.assertEqual(ask(self.CARD, 4), [-4])


class TwoTextsOfOneCard(unittest.TestCase):
    def test_couples_in_another_order(self):
        one = card_of(["9 couple 4 7 couple 1 9 couple 4 5"])
        other = card_of(["9 couple 4 5 couple 4 7 couple 1 9"])
        self.assertEqual(ask(one), ask(other))
        self.assertEqual(ask(one), told([1, 2, 3, 4, 6, 8]))

    def test_other_names_and_other_money(self):
        one = card_of(["4"], [pool_line()])
        other = card_of(["4"], [pool_line(name="race", take=7, brk=9, least=5, unit=3, none="carry")], day="pool")
        self.assertEqual(ask(one), ask(other))

    def test_two_lists_of_the_same_bytes(self):
        self.assertEqual(sets(0, text_of(card_of())), sets(0, text_of(card_of())))


if __name__ == "__main__":
    unittest.main()
