"""What next_of answers: of each kind and each k, against all combinations one by one, at the edges, and refusals."""

import unittest

from tests.helper import LAST, Frozen, card_of, model_asked, model_rows, pool_line, small_pools, text_of
from totecombos.pools import many, next_of, number

NONE = [-1]


def text_with(kind, races=("4",), race=1):
    return text_of(card_of(races, [pool_line(kind, race)]))


def model_next(rows, runner):
    """What next_of is to answer from each number on, the number behind the last among them."""
    answers = [NONE]
    for at in range(len(rows) - 1, -1, -1):
        answers.append([0, at] if runner in rows[at] else answers[-1])
    return answers[::-1]


class Ordinary(unittest.TestCase):
    def follow(self, text, runner, expected):
        """expected: the answers from the first number on; behind them there is none."""
        answers = [next_of(0, at, runner, text) for at in range(len(expected) + 3)]
        self.assertEqual(answers, [[0, one] for one in expected] + [NONE] * 3, runner)

    def test_place(self):
        for k in (1, 2, 3, 4):
            text = text_with(f"place {k}", ["5 couple 2 3"])    # 1 2 4 5
            self.follow(text, 1, [0])
            self.follow(text, 2, [1, 1])
            self.follow(text, 4, [2, 2, 2])
            self.follow(text, 5, [3, 3, 3, 3])

    def test_order(self):
        text = text_with("order 2", ["3"])    # 12 13 21 23 31 32
        self.follow(text, 1, [0, 1, 2, 4, 4])
        self.follow(text, 2, [0, 2, 2, 3, 5, 5])
        self.follow(text, 3, [1, 1, 3, 3, 4, 5])
        text = text_with("order 2", ["4 couple 1 2"])    # 13 14 31 34 41 43
        self.follow(text, 1, [0, 1, 2, 4, 4])
        self.follow(text, 4, [1, 1, 3, 3, 4, 5])

    def test_order_of_all(self):
        text = text_with("order 3", ["3"])
        for runner in (1, 2, 3):
            self.follow(text, runner, [0, 1, 2, 3, 4, 5])

    def test_any(self):
        text = text_with("any 2", ["4"])    # 12 13 14 23 24 34
        self.follow(text, 1, [0, 1, 2])
        self.follow(text, 2, [0, 3, 3, 3, 4])
        self.follow(text, 3, [1, 1, 3, 3, 5, 5])
        self.follow(text, 4, [2, 2, 2, 4, 4, 5])
        text = text_with("any 3", ["5 couple 2 3"])    # 124 125 145 245
        self.follow(text, 1, [0, 1, 2])
        self.follow(text, 2, [0, 1, 3, 3])
        self.follow(text, 4, [0, 2, 2, 3])
        self.follow(text, 5, [1, 1, 2, 3])

    def test_legs(self):
        text = text_with("legs 2", ["3 couple 1 2", "3"])    # 11 12 13 31 32 33
        self.follow(text, 1, [0, 1, 2, 3])
        self.follow(text, 2, [1, 1, 4, 4, 4])
        self.follow(text, 3, [2, 2, 2, 3, 4, 5])
        text = text_with("legs 3", ["2", "2 couple 1 2", "2"])    # 111 112 211 212
        self.follow(text, 1, [0, 1, 2, 3])
        self.follow(text, 2, [1, 1, 2, 3])

    def test_a_runner_in_each_place(self):
        for kind, rest in (("order 3", [5, 4]), ("order 4", [5, 4, 3]), ("any 3", [2, 5]), ("legs 3", [5, 1]),
                           ("legs 6", [5, 1, 2, 5, 4])):
            text = text_with(kind, ["6"] * 6)
            runners = (1, 3, 6) if kind == "any 3" else (6, 6, 6, 6, 6, 6)
            for at in range(len(rest) + 1):
                row = rest[:at] + [runners[at]] + rest[at:]
                start = number(0, text, row)[1]
                self.assertEqual(next_of(0, start, runners[at], text), [0, start], (kind, row))

    def test_the_pool_that_is_asked_for(self):
        pools = [pool_line("any 2", name="a"), pool_line("order 2", name="b"), pool_line("place 2", name="c")]
        text = text_of(card_of(["3"], pools))
        self.assertEqual([next_of(pool, 2, 1, text) for pool in range(4)], [NONE, [0, 2], NONE, [-4]])


class OneByOne(unittest.TestCase):
    def alike(self, name, text, rows, runners, starts):
        for runner in runners:
            expected = model_next(rows, runner)
            for start in starts:
                self.assertEqual(next_of(0, start, runner, text), expected[start], (name, start, runner))

    def test_small_pools(self):
        for name, text, rows in small_pools():
            step = 1 + len(rows) // 60
            self.alike(name, text, rows, range(9), range(0, len(rows) + 1, step))

    def test_pools_with_almost_too_many(self):
        for kind, races in (("order 3", ["24"]), ("order 4", ["18 couple 4 5"]), ("any 3", ["24 couple 1 24"]),
                            ("legs 4", ["16"] * 4), ("legs 6", ["8", "5 couple 1 3", "6", "9", "4", "9"])):
            text = text_with(kind, races)
            rows = model_rows(*model_asked(0, text)[1])
            self.assertLessEqual(len(rows), 65536)
            starts = list(range(0, len(rows), 1 + len(rows) // 13)) + [len(rows) - 1, len(rows)]
            self.alike(kind, text, rows, (0, 1, 4, 5, 8, 9, 15, 16, 17, 18, 23, 24, 25), starts)


class Edges(unittest.TestCase):
    TEXT = text_with("order 2", ["5 couple 2 4"])    # 1 2 3 5: 12 numbers

    def test_the_last_that_has_the_runner_and_the_number_behind(self):
        for kind, runner, last in (("place 3", 2, 1), ("order 2", 1, 9), ("any 2", 1, 2), ("any 2", 2, 4),
                                   ("legs 2", 1, 12), ("legs 2", 4, 15)):
            text = text_with(kind, ["4", "4"])
            with self.subTest(kind, runner=runner):
                self.assertEqual(next_of(0, last, runner, text), [0, last])
                self.assertEqual(next_of(0, last + 1, runner, text), NONE)

    def test_numbers_that_are_none(self):
        for start in (12, 13, 65535, 65536, 65537, 2147483648, LAST - 1, LAST):
            for runner in (0, 1, 5, LAST):
                self.assertEqual(next_of(0, start, runner, self.TEXT), NONE)

    def test_runners_that_are_none(self):
        for runner in (0, 4, 6, 24, 25, 255, 256, 257, 65537, 2147483649, LAST - 1, LAST):
            for start in (0, 5, 11, 12, LAST):
                self.assertEqual(next_of(0, start, runner, self.TEXT), NONE)

    def test_a_runner_of_some_legs_alone(self):
        text = text_with("legs 3", ["3 couple 1 3", "4 couple 1 2", "3"])    # 1 2; 1 3 4; 1 2 3
        self.assertEqual(next_of(0, 0, 4, text), [0, 6])
        self.assertEqual(next_of(0, 9, 4, text), [0, 15])
        self.assertEqual(next_of(0, 17, 4, text), [0, 17])
        self.assertEqual(next_of(0, 18, 4, text), NONE)
        self.assertEqual(next_of(0, 0, 5, text), NONE)

    def test_one_combination(self):
        for kind, races in (("place 1", ["2 couple 1 2"]), ("any 2", ["2"]), ("legs 6", ["2 couple 1 2"] * 6)):
            text = text_with(kind, races)
            self.assertEqual(next_of(0, 0, 1, text), [0, 0])
            self.assertEqual(next_of(0, 1, 1, text), NONE)
            self.assertEqual(next_of(0, 0, 3, text), NONE)


class TooMany(unittest.TestCase):
    MOST = text_with("legs 4", ["16"] * 4)
    GOOD = ((65536, MOST), (65520, text_with("legs 4", ["15", "24", "14", "13"])),
            (57120, text_with("order 4", ["17"])))
    # No pool has more than 65,536 and less than 65,550.
    BAD = ((65550, text_with("legs 4", ["19", "23", "15", "10"])), (73440, text_with("order 4", ["18"])),
           (255024, text_with("order 4", ["24"])), (191102976, text_with("legs 6", ["24"] * 6)))

    def test_at_most_65536(self):
        for expected, text in self.GOOD:
            self.assertEqual(many(0, text), [0, expected])
            self.assertEqual(next_of(0, 0, 1, text), [0, 0])
            self.assertEqual(next_of(0, 0, 99, text), NONE)
            self.assertEqual(next_of(0, LAST, 1, text), NONE)

    def test_the_last_of_65536(self):
        self.assertEqual(next_of(0, 65535, 16, self.MOST), [0, 65535])
        self.assertEqual(next_of(0, 65535, 15, self.MOST), NONE)
        self.assertEqual(next_of(0, 65536, 16, self.MOST), NONE)

    def test_more(self):
        for expected, text in self.BAD:
            self.assertEqual(many(0, text), [0, expected])
            for start in (0, 65535, 65536, expected - 1, expected, LAST):
                for runner in (0, 1, 10, 24, 25, LAST):
                    self.assertEqual(next_of(0, start, runner, text), [-9])

    def test_the_order_of_refusals(self):
        text = self.BAD[-1][1]
        for start, runner in ((0, 1), (LAST, 1), (0, 0), (LAST, LAST)):
            self.assertEqual(next_of(0, start, runner, text), [-9])
            self.assertEqual(next_of(1, start, runner, text), [-4])
            self.assertEqual(next_of(LAST, start, runner, text), [-4])
            self.assertEqual(next_of(0, start, runner, text[:-1]), [-6])
            self.assertEqual(next_of(LAST, start, runner, text[:-1]), [-6])
            self.assertEqual(next_of(LAST, start, runner, [10] * 65536), [-6])
            self.assertEqual(next_of(LAST, start, runner, [10] * 65537), [-2])


class HandedIn(unittest.TestCase):
    def test_the_text_is_the_same_afterwards(self):
        for kind in ("place 2", "order 3", "any 2", "legs 2"):
            text = text_with(kind, ["5 couple 1 2", "4"])
            for start, runner in ((0, 4), (1, 3), (2, 2), (LAST, 1), (0, LAST)):
                handed = list(text)
                answer = next_of(0, start, runner, handed)
                self.assertEqual(handed, text)
                self.assertEqual(next_of(0, start, runner, handed), answer)
                self.assertEqual(next_of(0, start, runner, Frozen(text)), answer)


if __name__ == "__main__":
    unittest.main()
