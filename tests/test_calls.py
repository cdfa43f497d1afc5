"""What holds for every call with a text: refusals and their order, and that a call leaves nothing behind."""

import builtins
import contextlib
import inspect
import io
import unittest
from unittest import mock

from tests.helper import CALLS, LAST, Frozen, card_of, pool_line, text_of
from totecombos import pools

MOST = 65536
CARD = card_of(["5 couple 1 2", "3"], [pool_line(name="a"), pool_line("legs 2", name="b")])


class Refusals(unittest.TestCase):
    def all_answer(self, pool, text, expected):
        for name, call in CALLS.items():
            self.assertEqual(call(pool, text), expected, name)

    def test_too_long(self):
        for length in (MOST + 1, MOST + 2, 66000):
            with self.subTest(length=length):
                self.all_answer(0, [97] * length, [-2])
        self.all_answer(0, [97] * MOST, [-6])
        self.all_answer(0, [97] * (MOST - 1), [-6])

    def test_too_long_whatever_the_text_and_the_pool(self):
        begun = text_of(CARD)
        for filling in (0, 10, 32, 48, 97, 255):
            for pool in (0, LAST):
                self.all_answer(pool, begun + [filling] * (MOST + 1 - len(begun)), [-2])
                self.all_answer(pool, begun + [filling] * (MOST - len(begun)), [-6])

    def test_long_texts_of_many_lines_and_words(self):
        for words in ("race 4\n", "pool p\n", pool_line(), "race 4 ", "couple 1 2 ", "\n", " ", "0", "day d\n"):
            text = text_of("day d\n" + words * (MOST // len(words)))[:MOST]
            with self.subTest(words):
                self.all_answer(0, text, [-6])
                self.all_answer(0, text[:-1] + [10], [-6])

    def test_no_card_before_no_pool(self):
        for pool in (0, 1, 63, 64, LAST):
            for words in ("", CARD[:-1], CARD + " ", card_of(["1"], [])):
                self.all_answer(pool, text_of(words), [-6])

    def test_no_such_pool(self):
        for pool in (2, 3, 63, 64, 65, 255, 256, 65536, 2147483647, 2147483648, LAST - 1, LAST):
            with self.subTest(pool=pool):
                self.all_answer(pool, text_of(CARD), [-4])

    def test_no_pool_at_all(self):
        for pool in (0, 1, LAST):
            self.all_answer(pool, text_of(card_of(pools=[])), [-4])

    def test_the_first_and_the_last_pool(self):
        for name, call in CALLS.items():
            for pool in (0, 1):
                answer = call(pool, text_of(CARD))
                self.assertNotIn(answer[0], (-2, -6, -4), name)

    def test_the_last_of_the_most_pools(self):
        text = text_of(card_of(pools=[pool_line(name=f"p{at}") for at in range(64)]))
        for name, call in CALLS.items():
            self.assertEqual(call(63, text), call(0, text), name)
            self.assertEqual(call(64, text), [-4], name)


class NothingLeftBehind(unittest.TestCase):
    TEXTS = ("", "day d", CARD, CARD[:-1], card_of(pools=[]), "x" * MOST, "x" * (MOST + 1))

    def each(self):
        """Each call with each text and some pools."""
        for name, call in CALLS.items():
            for words in self.TEXTS:
                for pool in (0, 1, 2):
                    yield f"{name} of pool {pool}, {words[:200]!r}", call, pool, text_of(words)

    def test_the_text_is_the_same_afterwards(self):
        for where, call, pool, text in self.each():
            before = list(text)
            call(pool, text)
            self.assertEqual(text, before, where)

    def test_the_text_is_not_changed_for_a_while(self):
        for where, call, pool, text in self.each():
            self.assertEqual(call(pool, Frozen(text)), call(pool, text), where)

    def test_asking_twice(self):
        for where, call, pool, text in self.each():
            self.assertEqual(call(pool, text), call(pool, text), where)

    def test_other_calls_between(self):
        first = {name: call(1, text_of(CARD)) for name, call in CALLS.items()}
        for where, other, pool, text in self.each():
            other(pool, text)
            for name, call in CALLS.items():
                self.assertEqual(call(1, text_of(CARD)), first[name], where)

    def test_an_answer_is_the_askers_own(self):
        for where, call, pool, text in self.each():
            before = list(text)
            answer = call(pool, text)
            expected = list(answer)
            answer.clear()
            self.assertEqual(call(pool, text), expected, where)
            self.assertEqual(text, before, where)

    def test_whole_numbers_in_a_list_alone(self):
        for where, call, pool, text in self.each():
            answer = call(pool, text)
            self.assertIs(type(answer), list, where)
            self.assertEqual({type(one) for one in answer}, {int}, where)

    def test_nothing_is_printed_read_or_imported(self):
        def refuse(*given, **named):
            raise AssertionError("something is read or imported")
        for where, call, pool, text in self.each():
            out = io.StringIO()
            with contextlib.redirect_stdout(out), contextlib.redirect_stderr(out):
                with mock.patch.object(builtins, "open", refuse), mock.patch.object(builtins, "input", refuse), \
                        mock.patch.object(builtins, "__import__", refuse):
                    call(pool, text)
            self.assertEqual(out.getvalue(), "", where)


class Interface(unittest.TestCase):
    ARGUMENTS = {
        "sets": ["pool", "text"],
        "many": ["pool", "text"],
        "number": ["pool", "text", "row"],
        "of": ["pool", "number", "text"],
        "next_of": ["pool", "number", "runner", "text"],
        "choose": ["n", "k"],
    }

    def test_names_and_order_of_the_arguments(self):
        for name, arguments in self.ARGUMENTS.items():
            given = inspect.signature(getattr(pools, name)).parameters.values()
            self.assertEqual([one.name for one in given], arguments, name)
            self.assertEqual({one.default for one in given}, {inspect.Parameter.empty}, name)


if __name__ == "__main__":
    unittest.main()
