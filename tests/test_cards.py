"""Which texts are cards: the bounds on both sides, and texts that are none."""

import unittest

from tests.helper import NO_CARD, ask, card_of, pool_line, told, upto

CARD = card_of(["4 couple 1 2", "3"], [pool_line(name="a"), pool_line("legs 2", name="b")])


class CardCase(unittest.TestCase):
    def is_card(self, card):
        self.assertEqual(ask(card)[0], 0, card)

    def is_none(self, card):
        self.assertEqual(ask(card), NO_CARD, card)

    def good_and_bad(self, build, good, bad):
        """build makes a card of each value."""
        for value in good:
            with self.subTest(good=value):
                self.is_card(build(value))
        for value in bad:
            with self.subTest(bad=value):
                self.is_none(build(value))


class Numbers(CardCase):
    WRONG = ("", "x", "a", "1a", "a1", "-1", "+1", "01", "001", "1.", "1_0", "0x1", "one", "\u00b2", "9" * 5000)

    def test_words_that_are_no_number(self):
        builders = {
            "runners": lambda word: card_of([word], []),
            "first": lambda word: card_of([f"4 couple {word} 4"], []),
            "second": lambda word: card_of([f"4 couple 1 {word}"], []),
            "k": lambda word: card_of(["4"], [pool_line(f"place {word}")]),
            "race": lambda word: card_of(["4"], [pool_line(race=word)]),
            "take": lambda word: card_of(["4"], [pool_line(take=word)]),
            "break": lambda word: card_of(["4"], [pool_line(brk=word)]),
            "least": lambda word: card_of(["4"], [pool_line(least=word)]),
            "unit": lambda word: card_of(["4"], [pool_line(unit=word)]),
        }
        for place, build in builders.items():
            for word in self.WRONG:
                with self.subTest(place, word=word):
                    self.is_none(build(word))

    def test_a_zero_in_front(self):
        self.is_none(card_of(["04"]))
        self.is_none(card_of(["4 couple 01 2"]))
        self.is_none(card_of(["4 couple 1 02"]))
        self.is_none(card_of(["4"], [pool_line(take="00")]))
        self.is_none(card_of(["4"], [pool_line(take="0400")]))
        self.is_none(card_of(["4"], [pool_line(least="00")]))
        self.is_none(card_of(["4"], [pool_line(least="01")]))

    def test_rows_of_very_many_digits(self):
        self.is_none(card_of(["9" * 65000]))
        self.is_none(card_of(["1" + "0" * 65000]))
        self.is_none(card_of(["0" * 65000 + "4"]))


class Names(CardCase):
    GOOD = ("a", "z", "a0", "z9", "abcdefghijkl", "a23456789012", "day", "race", "pool", "x0y")
    BAD = ("", "abcdefghijklm", "a234567890123", "0", "9a", "A", "aB", "a-b", "a_b", "a.", "\u00e4", "a\t", "`", "{",
           "a`", "a{", "a/", "a:", "a" * 60000)

    def test_of_the_day(self):
        self.good_and_bad(lambda name: card_of(day=name), self.GOOD, self.BAD)

    def test_of_a_pool(self):
        self.good_and_bad(lambda name: card_of(pools=[pool_line(name=name)]), self.GOOD, self.BAD)

    def test_names_of_pools_differ(self):
        self.is_card(card_of(pools=[pool_line(name="a"), pool_line(name="b")]))
        self.is_none(card_of(pools=[pool_line(name="a"), pool_line(name="a")]))
        self.is_none(card_of(["4"], [pool_line(name="a"), pool_line(name="b"), pool_line("any 2", name="a")]))

    def test_a_pool_may_be_called_like_the_day(self):
        self.is_card(card_of(pools=[pool_line(name="x")], day="x"))

    def test_names_that_differ_in_the_last_byte(self):
        self.is_card(card_of(pools=[pool_line(name="abcdefghijk" + last) for last in "abc0"]))
        self.is_card(card_of(pools=[pool_line(name="a"), pool_line(name="aa")]))


class Races(CardCase):
    def test_runners(self):
        self.good_and_bad(lambda runners: card_of([runners]), (2, 3, 9, 10, 23, 24), (0, 1, 25, 99, 240))

    def test_the_most_runners_are_all_told(self):
        self.assertEqual(ask(card_of(["24"])), told(upto(24)))
        self.assertEqual(ask(card_of(["2"])), told([1, 2]))

    def test_how_many(self):
        self.good_and_bad(lambda many: card_of(["2"] * many), (1, 2, 15, 16), (17, 18, 100))
        self.assertEqual(ask("day d\n"), NO_CARD)
        self.assertEqual(ask("day d\n" + pool_line()), NO_CARD)

    def test_the_words_of_the_line(self):
        for race in ("", "4 ", "4 4", "4 couple", "4 couple 1", "4 couple 1 2 3", "4 couple 1 2 couple",
                     "4 couple 1 2 couple 3", "4 couples 1 2", "4 1 2 couple", "couple 1 2", "4 pair 1 2",
                     "4 couple 1 2 pair 3 4", "4 1 2"):
            with self.subTest(race):
                self.is_none(card_of([race]))
        self.is_none("day d\nrace\n")
        self.is_none("day d\nraces 4\n")
        self.is_none("day d\nrac 4\n")


class Couples(CardCase):
    def test_runners_of_a_couple(self):
        good = ("1 2", "1 6", "5 6")
        bad = ("0 1", "0 0", "1 7", "6 7", "7 8", "1 0")
        self.good_and_bad(lambda couple: card_of([f"6 couple {couple}"]), good, bad)

    def test_the_first_is_below_the_second(self):
        self.good_and_bad(lambda couple: card_of([f"24 couple {couple}"]), ("9 10", "2 10"), ("3 3", "3 2", "10 9"))

    def test_the_first_is_no_second_before(self):
        self.is_none(card_of(["6 couple 1 2 couple 2 3"]))
        self.is_none(card_of(["6 couple 1 2 couple 4 5 couple 2 6"]))
        self.is_card(card_of(["6 couple 1 2 couple 1 3"]))

    def test_the_second_is_no_first_before(self):
        self.is_none(card_of(["6 couple 2 3 couple 1 2"]))
        self.is_none(card_of(["6 couple 3 4 couple 1 2 couple 2 3"]))

    def test_the_second_is_no_second_before(self):
        self.is_none(card_of(["6 couple 1 3 couple 2 3"]))
        self.is_none(card_of(["6 couple 1 3 couple 1 3"]))
        self.is_none(card_of(["6 couple 1 3 couple 4 5 couple 2 3"]))

    def test_how_many_in_a_line(self):
        couples = [f" couple {first} {first + 12}" for first in range(1, 10)]
        self.assertEqual(ask(card_of(["24" + "".join(couples[:8])])), told(upto(12) + [21, 22, 23, 24]))
        self.is_none(card_of(["24" + "".join(couples)]))
        self.is_card(card_of(["24" + "".join(couples[:8])] * 2))

    def test_eight_of_one_head(self):
        couples = [f" couple 1 {second}" for second in range(2, 11)]
        self.assertEqual(ask(card_of(["9" + "".join(couples[:8])])), told([1]))
        self.is_none(card_of(["10" + "".join(couples)]))

    def test_a_wrong_couple_in_the_last_race(self):
        self.is_none(card_of(["4", "4", "4 couple 2 1"]))


class PoolBounds(CardCase):
    def with_pool(self, **words):
        return card_of(["9"] * 8, [pool_line(**words)])

    def test_k_of_each_kind(self):
        for kind, good in (("place", (1, 2, 3, 4)), ("order", (2, 3, 4)), ("any", (2, 3)), ("legs", (2, 3, 4, 5, 6))):
            bad = [k for k in (0, 1, 2, 3, 4, 5, 6, 7, 8, 22) if k not in good]
            self.good_and_bad(lambda k: self.with_pool(kind=f"{kind} {k}"), good, bad)

    def test_there_are_no_other_kinds(self):
        for kind in ("win 1", "places 2", "plac 2", "leg 2", "orders 2", "2 2", "from 2", "any2 2"):
            with self.subTest(kind):
                self.is_none(self.with_pool(kind=kind))

    def test_race(self):
        for kind in ("place 2", "order 2", "any 2"):
            self.good_and_bad(lambda race: self.with_pool(kind=kind, race=race), (1, 2, 8), (0, 9, 10, 80))

    def test_races_of_legs(self):
        for k in (2, 3, 4, 5, 6):
            last = 8 - k + 1
            self.good_and_bad(lambda race: self.with_pool(kind=f"legs {k}", race=race), (1, last), (0, last + 1, 9))
        self.is_none(card_of(["4"], [pool_line("legs 2")]))

    def test_take(self):
        self.good_and_bad(lambda take: self.with_pool(take=take), (0, 1, 399, 400), (401, 4000))

    def test_break(self):
        self.good_and_bad(lambda brk: self.with_pool(brk=brk), (1, 2, 999, 1000), (0, 1001, 10000))

    def test_unit(self):
        self.good_and_bad(lambda unit: self.with_pool(unit=unit), (1, 2, 9999, 10000), (0, 10001, 100000))

    def test_least(self):
        for unit in (2, 100, 10000):
            good = (0, unit, unit + 1, 2 * unit - 1, 2 * unit)
            self.good_and_bad(lambda least: self.with_pool(least=least, unit=unit), good, (1, unit - 1, 2 * unit + 1))
        self.good_and_bad(lambda least: self.with_pool(least=least, unit=1), (0, 1, 2), (3, 4))
        self.is_none(self.with_pool(least=0, unit=0))
        self.is_none(self.with_pool(least=10001, unit=10001))
        self.is_none(self.with_pool(least=100000, unit=10000))

    def test_none(self):
        for kind in ("order 2", "any 2", "legs 2"):
            build = lambda none: self.with_pool(kind=kind, none=none)
            self.good_and_bad(build, ("refund", "carry", "fewer"), ("none", "few", "refunds", "", "0", "place"))

    def test_none_of_place_is_not_fewer(self):
        for k in (1, 2, 3, 4):
            build = lambda none: self.with_pool(kind=f"place {k}", none=none)
            self.good_and_bad(build, ("refund", "carry"), ("fewer", "few", ""))

    def test_at_least_k_interests(self):
        for kind, k in (("place", 3), ("place", 4), ("order", 3), ("order", 4), ("any", 3)):
            def build(race):
                return card_of(["9", race], [pool_line(f"{kind} {k}", race=2)])
            good = (f"{k}", f"{k + 1} couple 1 2", f"{k + 2} couple 1 2 couple 1 3")
            bad = (f"{k - 1}", f"{k} couple 1 2", f"{k + 1} couple 1 2 couple 1 3")
            self.good_and_bad(build, good, bad)

    def test_one_interest(self):
        for kind, card in (("place 1", True), ("place 2", False), ("order 2", False), ("any 2", False)):
            text = card_of(["2 couple 1 2"], [pool_line(kind)])
            (self.is_card if card else self.is_none)(text)

    def test_how_many(self):
        def build(many):
            return card_of(pools=[pool_line(name=f"p{at}") for at in range(many)])
        self.good_and_bad(build, (1, 2, 63, 64), (65, 66, 200))
        self.assertEqual(ask(build(64), 63), told(upto(4)))
        self.assertEqual(ask(build(64), 64), [-4])

    def test_no_pools(self):
        self.assertEqual(ask(card_of(pools=[])), [-4])

    def test_a_wrong_pool_that_is_not_asked_for(self):
        self.is_none(card_of(pools=[pool_line(), pool_line("any 4", name="q")]))
        self.is_none(card_of(pools=[pool_line(take=401), pool_line(name="q")]))


class PoolWords(CardCase):
    WORDS = pool_line("order 2", none="carry").split()

    def card_with(self, words):
        return card_of(pools=[" ".join(words) + "\n"])

    def test_the_line_itself(self):
        self.is_card(self.card_with(self.WORDS))

    def test_a_word_too_few(self):
        for at in range(len(self.WORDS)):
            with self.subTest(self.WORDS[at], at=at):
                self.is_none(self.card_with(self.WORDS[:at] + self.WORDS[at + 1:]))

    def test_a_word_too_many(self):
        for at in range(len(self.WORDS) + 1):
            for word in ("x", "1", "take"):
                with self.subTest(word, at=at):
                    self.is_none(self.card_with(self.WORDS[:at] + [word] + self.WORDS[at:]))

    def test_another_word(self):
        for at in range(len(self.WORDS)):
            if at != 1:
                with self.subTest(self.WORDS[at], at=at):
                    self.is_none(self.card_with(self.WORDS[:at] + ["xyz"] + self.WORDS[at + 1:]))

    def test_words_in_another_order(self):
        for at in range(len(self.WORDS) - 1):
            swapped = self.WORDS[:at] + [self.WORDS[at + 1], self.WORDS[at]] + self.WORDS[at + 2:]
            with self.subTest(at=at):
                self.is_none(self.card_with(swapped))
        self.is_none(card_of(pools=["pool p place 1 from 1 break 1 take 0 least 0 unit 1 none refund\n"]))
        self.is_none(card_of(pools=["pool p place 1 from 1 take 0 break 1 unit 1 least 1 none refund\n"]))


class Layout(CardCase):
    def test_the_card_itself(self):
        self.assertEqual(ask(CARD, 1), told([1, 3, 4], upto(3)))

    def test_no_lines(self):
        for text in ("", "\n", " ", "day", "day\n", "day d", "d\n", "\n\n"):
            with self.subTest(text):
                self.is_none(text)

    def test_the_first_line(self):
        rest = CARD.partition("\n")[2]
        for day in ("day d e\n", "days d\n", "d day\n", "Day d\n", "da d\n", "", "day\n", "day d\nday d\n", "race d\n"):
            with self.subTest(day):
                self.is_none(day + rest)

    def test_every_shorter_text(self):
        # Behind the races, and behind the first pool, a card may end too.
        whole = [at for at in range(len(CARD) + 1) if ask(CARD[:at], 0) != NO_CARD]
        lengths = [len(card_of(["4 couple 1 2"], [])), len(card_of(["4 couple 1 2", "3"], [])),
                   len(card_of(["4 couple 1 2", "3"], [pool_line()])), len(CARD)]
        self.assertEqual(whole, lengths)

    def test_a_line_that_is_not_ended(self):
        self.is_none(CARD[:-1])
        self.is_none(card_of(pools=[])[:-1])
        self.is_none(CARD + "x")
        self.is_none(CARD + " ")

    def test_a_blank_too_many_or_too_few(self):
        for at in range(len(CARD) + 1):
            with self.subTest(at=at):
                self.is_none(CARD[:at] + " " + CARD[at:])
            if CARD[at:at + 1] == " ":
                self.is_none(CARD[:at] + CARD[at + 1:])
                self.is_none(CARD[:at] + "  " + CARD[at + 1:])
                self.is_none(CARD[:at] + "\t" + CARD[at + 1:])
                self.is_none(CARD[:at] + "\n" + CARD[at + 1:])

    def test_an_empty_line(self):
        lines = CARD.splitlines(keepends=True)
        for at in range(len(lines) + 1):
            with self.subTest(at=at):
                self.is_none("".join(lines[:at]) + "\n" + "".join(lines[at:]))

    def test_other_ends_of_lines(self):
        self.is_none(CARD.replace("\n", "\r\n"))
        self.is_none(CARD.replace("\n", "\r"))
        self.is_none(CARD.replace("\n", " "))

    def test_a_byte_that_can_not_stand_there(self):
        allowed = set(b"abcdefghijklmnopqrstuvwxyz0123456789 \n")
        for byte in range(256):
            if byte not in allowed:
                with self.subTest(byte=byte):
                    self.is_none(CARD + chr(byte))
                    self.is_none(chr(byte) + CARD)
                    self.is_none(CARD.replace("day d", "day d" + chr(byte)))
                    self.is_none(CARD.replace("race 3", "race" + chr(byte) + "3"))
                    self.is_none(CARD.replace("race 3", "race 3" + chr(byte)))
                    self.is_none(CARD.replace("pool b", "pool b" + chr(byte)))

    def test_a_foreign_byte_in_place_of_each_byte(self):
        for at in range(len(CARD)):
            for sign in "?\x00\x80\xff":
                self.is_none(CARD[:at] + sign + CARD[at + 1:])

    def test_every_byte_of_a_name(self):
        for byte in b"abcdefghijklmnopqrstuvwxyz0123456789":
            self.is_card(card_of(day="x" + chr(byte)))

    def test_large_letters(self):
        self.is_none(CARD.upper())
        for word in ("day", "race", "couple", "pool", "from", "none", "refund", "legs"):
            self.is_none(CARD.replace(word, word.title()))

    def test_lines_in_another_order(self):
        day, first, second, one, two = CARD.splitlines(keepends=True)
        self.is_card(day + first + second + two + one)
        for lines in ((first, day, second, one, two), (day, one, first, second), (day, first, one, second),
                      (day, first, second, one, day), (first, second, one, two), (day, day, first, second, one),
                      (one, day, first, second), (day, one), (day, first, second, "x\n"), (day, "x\n", first, second)):
            with self.subTest(lines):
                self.is_none("".join(lines))


if __name__ == "__main__":
    unittest.main()
