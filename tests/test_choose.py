"""What choose answers: against Pascal's triangle, and at its edges."""

import builtins
import contextlib
import io
import unittest
from unittest import mock

from tests.helper import LAST
from totecombos.pools import choose

GREAT = (64, 65, 66, 127, 128, 255, 256, 65536, 2147483647, 2147483648, LAST - 1, LAST)


def triangle(rows):
    """How many sets there are of up to so many things, by adding alone."""
    found = [[1]]
    for n in range(rows):
        above = [0] + found[-1] + [0]
        found.append([above[at] + above[at + 1] for at in range(len(above) - 1)])
    return found


class Choose(unittest.TestCase):
    def test_all_up_to_64(self):
        for n, row in enumerate(triangle(64)):
            for k in range(65):
                expected = row[k] if k <= n else 0
                self.assertEqual(choose(n, k), [0, expected], (n, k))

    def test_some(self):
        for n, k, expected in ((5, 2, 10), (24, 3, 2024), (24, 2, 276), (63, 2, 1953), (64, 2, 2016), (64, 63, 64),
                               (64, 32, 1832624140942590534), (63, 31, 916312070471295267)):
            self.assertEqual(choose(n, k), [0, expected])

    def test_none_of_them(self):
        for n in (0, 1, 2, 63) + GREAT:
            self.assertEqual(choose(n, 0), [0, 1])

    def test_one_of_them(self):
        for n in (1, 2, 63, 64):
            self.assertEqual(choose(n, 1), [0, n])
        self.assertEqual(choose(65, 1), [0, 64])
        self.assertEqual(choose(LAST, 1), [0, 64])

    def test_all_of_them(self):
        for n in range(65):
            self.assertEqual(choose(n, n), [0, 1])

    def test_more_than_there_are(self):
        for n in range(64):
            for k in (n + 1, n + 2, n + 63) + GREAT:
                self.assertEqual(choose(n, k), [0, 0], (n, k))

    def test_above_64_is_taken_for_64(self):
        for n in GREAT:
            for k in range(65):
                self.assertEqual(choose(n, k), choose(64, k), (n, k))
            for k in GREAT:
                self.assertEqual(choose(n, k), [0, 1], (n, k))
        for k in GREAT:
            self.assertEqual(choose(63, k), [0, 0])
            self.assertEqual(choose(0, k), [0, 0])

    def test_around_64(self):
        around = (63, 64, 65, LAST)
        answers = [[choose(n, k)[1] for k in around] for n in around]
        self.assertEqual(answers, [[1, 0, 0, 0], [64, 1, 1, 1], [64, 1, 1, 1], [64, 1, 1, 1]])


class NothingLeftBehind(unittest.TestCase):
    PAIRS = ((0, 0), (5, 2), (2, 5), (64, 32), (65, 64), (LAST, 30), (LAST, LAST))

    def test_asking_twice(self):
        first = [choose(n, k) for n, k in self.PAIRS]
        self.assertEqual([choose(n, k) for n, k in self.PAIRS], first)
        for answer in first:
            answer.clear()
        self.assertEqual([choose(n, k)[0] for n, k in self.PAIRS], [0] * len(self.PAIRS))

    def test_whole_numbers_in_a_list_alone(self):
        for n, k in self.PAIRS:
            answer = choose(n, k)
            self.assertIs(type(answer), list)
            self.assertEqual([type(one) for one in answer], [int, int])

    def test_nothing_is_printed_read_or_imported(self):
        def refuse(*given, **named):
            raise AssertionError("something is read or imported")
        out = io.StringIO()
        with contextlib.redirect_stdout(out), contextlib.redirect_stderr(out):
            with mock.patch.object(builtins, "open", refuse), mock.patch.object(builtins, "input", refuse), \
                    mock.patch.object(builtins, "__import__", refuse):
                choose(64, 32)
        self.assertEqual(out.getvalue(), "")


if __name__ == "__main__":
    unittest.main()
