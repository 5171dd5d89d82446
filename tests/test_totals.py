"""is_possible_length, impossible_lengths and min_stones, held against all sums of stones and each other."""

import unittest
from math import gcd

from helper import (
    ADD, CREATE, GREATEST, IMPOSSIBLE_LENGTHS, IS_POSSIBLE_LENGTH, LEAST, MIN_STONES, REMOVE, SET_LENGTH, ask,
    ask_all, build, expected_fewest, expected_impossible, hold, last, stone_choices,
)

LENGTHS = range(61)
# No stone length, one, some and four, with and without a common divisor.
CHOICES = ((), (1,), (3,), (9,), (2, 3), (6, 4), (7, 8), (9, 8), (3, 6, 9), (9, 1, 6, 5), (8, 2, 6, 4), (9, 8, 7, 6))


def greatest_first(stones, m):
    """How many stones are laid where the greatest that fits is always taken; 1 is among them."""
    count = 0
    while m > 0:
        m -= max(k for k in stones if k <= m)
        count += 1
    return count


class AgainstAllSumsTest(unittest.TestCase):
    def test_is_possible_length(self):
        for stones in stone_choices():
            told = ask_all(build(5, stones), [(IS_POSSIBLE_LENGTH, m) for m in LENGTHS])
            hold(self, told, [[int(m in expected_fewest(stones))] for m in LENGTHS], stones)

    def test_min_stones(self):
        for stones in stone_choices():
            told = ask_all(build(5, stones), [(MIN_STONES, m) for m in LENGTHS])
            hold(self, told, [[expected_fewest(stones).get(m, -33)] for m in LENGTHS], stones)

    def test_impossible_lengths(self):
        for stones in stone_choices():
            lengths = expected_impossible(stones)
            told = last(*build(5, stones), (IMPOSSIBLE_LENGTHS,))
            self.assertEqual(told, [len(lengths)] + lengths[:20], stones)


class EachOtherTest(unittest.TestCase):
    def test_the_three_calls_agree(self):
        for stones in CHOICES:
            start = build(5, stones)
            possible = ask_all(start, [(IS_POSSIBLE_LENGTH, m) for m in LENGTHS])
            fewest = ask_all(start, [(MIN_STONES, m) for m in LENGTHS])
            told = last(*start, (IMPOSSIBLE_LENGTHS,))
            impossible = [m for m in LENGTHS if possible[m] == [0]]
            self.assertEqual(impossible, [m for m in LENGTHS if fewest[m] == [-33]], stones)
            self.assertEqual(told, [len(impossible)] + impossible[::-1][:20], stones)

    def test_multiples_of_a_number(self):
        for stones in ((2, 4), (9, 6), (3, 6, 9), (8, 4), (2, 4, 6, 8), (5,), (7,)):
            told = ask_all(build(5, stones), [(IS_POSSIBLE_LENGTH, m) for m in LENGTHS])
            for m in LENGTHS:
                if told[m] == [1]:
                    self.assertEqual(m % gcd(*stones), 0, (stones, m))

    def test_the_length_of_the_wall_does_not_matter(self):
        calls = [(IS_POSSIBLE_LENGTH, 31), (MIN_STONES, 59), (IMPOSSIBLE_LENGTHS,), (IS_POSSIBLE_LENGTH, 1)]
        told = [ask(*build(length, [4, 7]), *calls)[3:] for length in range(1, 10)]
        self.assertEqual(told, [told[0]] * 9)

    def test_they_go_with_the_stone_lengths(self):
        calls = [
            (CREATE, 5), (MIN_STONES, 12), (ADD, 6), (MIN_STONES, 12), (ADD, 9), (MIN_STONES, 15), (SET_LENGTH, 3),
            (MIN_STONES, 15), (REMOVE, 9), (MIN_STONES, 15), (IS_POSSIBLE_LENGTH, 12), (REMOVE, 6),
            (IS_POSSIBLE_LENGTH, 12), (IS_POSSIBLE_LENGTH, 0),
        ]
        told = ask(*calls)
        self.assertEqual(told, [[0], [-33], [1], [2], [2], [2], [5], [2], [1], [-33], [1], [0], [0], [1]])


class RangeTest(unittest.TestCase):
    def test_out_of_range(self):
        for stones in CHOICES:
            for m in (LEAST, -60, -1, 61, 62, GREATEST):
                told = ask(*build(5, stones), (IS_POSSIBLE_LENGTH, m), (MIN_STONES, m))
                self.assertEqual(told[-2:], [[-22], [-22]], (stones, m))

    def test_0_is_always_possible_with_no_stones(self):
        for stones in stone_choices():
            told = ask(*build(5, stones), (IS_POSSIBLE_LENGTH, 0), (MIN_STONES, 0))
            self.assertEqual(told[-2:], [[1], [0]], stones)

    def test_60(self):
        for stones, possible, fewest in (((1,), 1, 60), ((9,), 0, -33), ((6,), 1, 10), ((7, 9), 1, 8), ((), 0, -33)):
            told = ask(*build(5, stones), (IS_POSSIBLE_LENGTH, 60), (MIN_STONES, 60))
            self.assertEqual(told[-2:], [[possible], [fewest]], stones)


class PossibleLengthTest(unittest.TestCase):
    def test_no_stone_lengths(self):
        told = ask((CREATE, 5), *[(IS_POSSIBLE_LENGTH, m) for m in (0, 1, 9, 60)])
        self.assertEqual(told[1:], [[1], [0], [0], [0]])

    def test_stone_lengths_greater_than_m(self):
        told = ask(*build(5, [7, 8]), *[(IS_POSSIBLE_LENGTH, m) for m in (1, 6, 7, 8, 9, 13, 14, 15, 41, 42)])
        self.assertEqual(told[3:], [[0], [0], [1], [1], [0], [0], [1], [1], [0], [1]])


class MinStonesTest(unittest.TestCase):
    def test_greatest_stone_first_is_not_always_fewest(self):
        told = ask(*build(5, [1, 5, 6, 9]), *[(MIN_STONES, m) for m in (9, 10, 11, 12, 13, 20, 22, 60)])
        self.assertEqual(told[5:], [[1], [2], [2], [2], [3], [3], [4], [7]])
        self.assertEqual(last(*build(5, [1, 3, 4]), (MIN_STONES, 6)), [2])
        self.assertEqual(last(*build(5, [5, 4, 9]), (MIN_STONES, 13)), [2])
        self.assertEqual(last(*build(5, [3, 7]), (MIN_STONES, 9)), [3])

    def test_such_sets_at_every_length(self):
        for stones in ((1, 5, 6, 9), (1, 3, 4), (1, 4, 6), (1, 7, 8), (1, 5, 8)):
            told = ask_all(build(5, stones), [(MIN_STONES, m) for m in LENGTHS])
            hold(self, told, [[expected_fewest(stones)[m]] for m in LENGTHS], stones)
            self.assertTrue(any(told[m] < [greatest_first(stones, m)] for m in LENGTHS), stones)

    def test_not_possible(self):
        told = ask(*build(5, [4, 6]), *[(MIN_STONES, m) for m in (1, 2, 3, 5, 59)])
        self.assertEqual(told[3:], [[-33]] * 5)


class ImpossibleLengthsTest(unittest.TestCase):
    def test_none(self):
        self.assertEqual(last(*build(5, [1]), (IMPOSSIBLE_LENGTHS,)), [0])
        self.assertEqual(last(*build(5, [9, 4, 1]), (IMPOSSIBLE_LENGTHS,)), [0])

    def test_fewer_than_20(self):
        self.assertEqual(last(*build(5, [3, 2]), (IMPOSSIBLE_LENGTHS,)), [1, 1])
        self.assertEqual(last(*build(5, [3, 5]), (IMPOSSIBLE_LENGTHS,)), [4, 7, 4, 2, 1])
        told = last(*build(5, [9, 5]), (IMPOSSIBLE_LENGTHS,))
        self.assertEqual(told, [16, 31, 26, 22, 21, 17, 16, 13, 12, 11, 8, 7, 6, 4, 3, 2, 1])

    def test_one_more_than_20(self):
        told = last(*build(5, [7, 8]), (IMPOSSIBLE_LENGTHS,))
        self.assertEqual(told, [21, 41, 34, 33, 27, 26, 25, 20, 19, 18, 17, 13, 12, 11, 10, 9, 6, 5, 4, 3, 2])

    def test_many_more_than_20(self):
        self.assertEqual(last((CREATE, 5), (IMPOSSIBLE_LENGTHS,)), [60] + list(range(60, 40, -1)))
        self.assertEqual(last(*build(5, [2]), (IMPOSSIBLE_LENGTHS,)), [30] + list(range(59, 20, -2)))

    def test_nearest_to_20_that_there_are(self):
        # No choice of stone lengths leaves just 20: 16 and 21 lie next to it.
        counts = {len(expected_impossible(stones)) for stones in stone_choices()}
        self.assertEqual([count for count in sorted(counts) if 15 <= count <= 25], [15, 16, 21, 24])
        told = {last(*build(5, stones), (IMPOSSIBLE_LENGTHS,))[0] for stones in stone_choices()}
        self.assertEqual(told, counts)


if __name__ == "__main__":
    unittest.main()
