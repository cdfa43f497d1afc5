"""What holds for every call with a text: refusals and their order, and that a call leaves nothing behind."""

import builtins
import contextlib
import io
import unittest
from unittest import mock

from tests.helper import ask, card_of, pool_line, text_of, told, upto
from totecombos.pools import sets

MOST = 65536
LAST = 4294967295
CARD = card_of(["5 couple 1 2", "3"], [pool_line(name="a"), pool_line("legs 2", name="b")])


class Refusals(unittest.TestCase):
    def test_too_long(self):
        for length in (MOST + 1, MOST + 2, 66000):
            with self.subTest(length=length):
                self.assertEqual(sets(0, [97] * length), [-2])
        self.assertEqual(sets(0, [97] * MOST), [-6])
        self.assertEqual(sets(0, [97] * (MOST - 1)), [-6])

    def test_too_long_whatever_the_text_and_the_pool(self):
        begun = text_of(CARD)
        for filling in (0, 10, 32, 48, 97, 255):
            for pool in (0, 1, 2, LAST):
                self.assertEqual(sets(pool, begun + [filling] * (MOST + 1 - len(begun))), [-2])
                self.assertEqual(sets(pool, begun + [filling] * (MOST - len(begun))), [-6])

    def test_long_texts_of_many_lines_and_words(self):
        for words in ("race 4\n", "pool p\n", pool_line(), "race 4 ", "couple 1 2 ", "\n", " ", "0", "day d\n"):
            text = text_of("day d\n" + words * (MOST // len(words)))[:MOST]
            self.assertEqual(sets(0, text), [-6], words)
            self.assertEqual(sets(0, text[:-1] + [10]), [-6], words)

    def test_no_card_before_no_pool(self):
        for pool in (0, 1, 63, 64, LAST):
            self.assertEqual(ask("", pool), [-6])
            self.assertEqual(ask(CARD[:-1], pool), [-6])
            self.assertEqual(ask(card_of(["1"], []), pool), [-6])

    def test_no_such_pool(self):
        for pool in (2, 3, 63, 64, 65, 255, 256, 65536, 2147483647, 2147483648, LAST - 1, LAST):
            with self.subTest(pool=pool):
                self.assertEqual(ask(CARD, pool), [-4])

    def test_no_pool_at_all(self):
        for pool in (0, 1, LAST):
            self.assertEqual(ask(card_of(pools=[]), pool), [-4])

    def test_the_first_and_the_last_pool(self):
        self.assertEqual(ask(CARD, 0), told([1, 3, 4, 5]))
        self.assertEqual(ask(CARD, 1), told([1, 3, 4, 5], upto(3)))


class Frozen(list):
    """A list that can't be changed, not for a while either."""

    def refuse(self, *given, **named):
        raise AssertionError("what was handed in is changed")

    append = extend = insert = pop = remove = clear = sort = reverse = refuse
    __setitem__ = __delitem__ = __iadd__ = __imul__ = refuse


class NothingLeftBehind(unittest.TestCase):
    TEXTS = ("", "day d", CARD, CARD[:-1], card_of(pools=[]), "x" * MOST, "x" * (MOST + 1))

    def test_the_text_is_the_same_afterwards(self):
        for words in self.TEXTS:
            text = text_of(words)
            sets(0, text)
            self.assertEqual(text, text_of(words))

    def test_the_text_is_not_changed_for_a_while(self):
        for words in self.TEXTS:
            self.assertEqual(sets(1, Frozen(text_of(words))), sets(1, text_of(words)))

    def test_asking_twice(self):
        for words in self.TEXTS:
            text = text_of(words)
            self.assertEqual(sets(1, text), sets(1, text))

    def test_other_calls_between(self):
        first = ask(CARD, 1)
        for words in self.TEXTS:
            ask(words, 0)
            self.assertEqual(ask(CARD, 1), first)

    def test_an_answer_is_the_askers_own(self):
        text = text_of(CARD)
        answer = sets(1, text)
        expected = list(answer)
        answer.clear()
        self.assertEqual(sets(1, text), expected)
        self.assertEqual(text, text_of(CARD))

    def test_whole_numbers_in_a_list_alone(self):
        for words in self.TEXTS:
            for pool in (0, 1, 2):
                answer = ask(words, pool)
                self.assertIs(type(answer), list)
                self.assertEqual({type(one) for one in answer}, {int})

    def test_nothing_is_printed_read_or_imported(self):
        def refuse(*given, **named):
            raise AssertionError("something is read or imported")
        for words in self.TEXTS:
            text = text_of(words)
            out = io.StringIO()
            with contextlib.redirect_stdout(out), contextlib.redirect_stderr(out):
                with mock.patch.object(builtins, "open", refuse), mock.patch.object(builtins, "input", refuse), \
                        mock.patch.object(builtins, "__import__", refuse):
                    sets(0, text)
            self.assertEqual(out.getvalue(), "")


class Interface(unittest.TestCase):
    def test_names_and_order_of_the_arguments(self):
        text = text_of(CARD)
        self.assertEqual(sets(pool=1, text=text), sets(1, text))


if __name__ == "__main__":
    unittest.main()
