"""wall_count, first_wall, loneliest_row and check_wall, held against the document's terms."""

import unittest
from itertools import product

from helper import (
    ARE_COMPATIBLE, CHECK_WALL, COMPATIBLE_COUNT, FIRST_WALL, GREATEST, LEAST, LONELIEST_ROW, REMOVE, ROW_COUNT,
    SET_LENGTH, WALLS, WALL_COUNT, ask, ask_all, build, expected_first_wall, expected_fits, expected_loneliest,
    expected_rows, expected_wall_count, expected_walls, hold, is_expected_wall, last, stone_choices,
)

NO_ROWS = ((5, ()), (1, ()), (9, ()), (5, (2, 4)), (1, (2,)), (5, (6, 7, 8, 9)))
MANY_ROWS = ((9, (1, 2, 3, 4)), (8, (1, 2, 3, 5)), (9, (9, 1, 2, 4)), (9, (2, 3, 4, 9)))


def walls_with_few_rows():
    """All lengths and choices of stone lengths with at most 6 rows."""
    choices = [(length, stones) for stones in stone_choices() for length in range(1, 10)]
    return [(length, stones) for length, stones in choices if len(expected_rows(length, stones)) <= 6]


class WallCountTest(unittest.TestCase):
    def test_against_all_sequences_of_rows(self):
        for length, stones in walls_with_few_rows():
            told = ask(*build(length, stones), *[(WALL_COUNT, height) for height in range(5)])
            wanted = [[len(expected_walls(length, stones, height))] for height in range(5)]
            self.assertEqual(told[1 + len(stones):], wanted, (length, stones))

    def test_every_height(self):
        for length, stones in (*WALLS, *MANY_ROWS):
            told = ask(*build(length, stones), *[(WALL_COUNT, height) for height in range(9)])
            wanted = [[expected_wall_count(length, stones, height)] for height in range(9)]
            self.assertEqual(told[1 + len(stones):], wanted, (length, stones))

    def test_counts_told_by_hand(self):
        # The rows 1 1 1, 1 2 and 2 1: only the last two lie on each other.
        told = ask(*build(3, [1, 2]), *[(WALL_COUNT, height) for height in range(9)])
        self.assertEqual(told[3:], [[1], [3]] + [[2]] * 7)
        # The rows 1 1 and 2: all pairs but 1 1 on itself, so the counts are those of Fibonacci.
        told = ask(*build(2, [1, 2]), *[(WALL_COUNT, height) for height in range(9)])
        self.assertEqual(told[3:], [[1], [2], [3], [5], [8], [13], [21], [34], [55]])

    def test_height_out_of_range(self):
        for length, stones in (*WALLS, *NO_ROWS):
            for height in (LEAST, -8, -1, 9, 60, GREATEST):
                self.assertEqual(last(*build(length, stones), (WALL_COUNT, height)), [-22], (length, stones, height))

    def test_height_0(self):
        for length, stones in (*WALLS, *NO_ROWS, *MANY_ROWS):
            self.assertEqual(last(*build(length, stones), (WALL_COUNT, 0)), [1], (length, stones))

    def test_height_1_is_the_number_of_rows(self):
        for stones in stone_choices():
            for length in range(1, 10):
                told = ask(*build(length, stones), (WALL_COUNT, 1), (ROW_COUNT,))
                self.assertEqual(told[-2], told[-1], (length, stones))

    def test_a_row_with_joints_does_not_lie_on_itself(self):
        told = ask(*build(6, [3]), *[(WALL_COUNT, height) for height in range(9)])
        self.assertEqual(told[2:], [[1], [1]] + [[0]] * 7)
        told = ask(*build(6, [3, 2]), *[(WALL_COUNT, height) for height in range(9)])
        self.assertEqual(told[3:], [[1]] + [[2]] * 8)

    def test_one_row_without_joints(self):
        for length in range(1, 10):
            told = ask(*build(length, [length]), *[(WALL_COUNT, height) for height in range(9)])
            self.assertEqual(told[2:], [[1]] * 9)

    def test_no_rows(self):
        for length, stones in NO_ROWS:
            told = ask(*build(length, stones), *[(WALL_COUNT, height) for height in range(9)])
            self.assertEqual(told[1 + len(stones):], [[1]] + [[0]] * 8)

    def test_goes_with_the_instance(self):
        calls = build(6, [3]) + [(WALL_COUNT, 4), (SET_LENGTH, 3), (WALL_COUNT, 4), (REMOVE, 3), (WALL_COUNT, 4)]
        self.assertEqual(ask(*calls)[2:], [[0], [6], [1], [0], [0]])


class FirstWallTest(unittest.TestCase):
    def test_against_all_sequences_of_rows(self):
        for length, stones in walls_with_few_rows():
            told = ask(*build(length, stones), *[(FIRST_WALL, height) for height in range(1, 5)])
            wanted = []
            for height in range(1, 5):
                walls = expected_walls(length, stones, height)
                wanted.append([height] + walls[0] if walls else [-33])
            self.assertEqual(told[1 + len(stones):], wanted, (length, stones))

    def test_every_height_is_a_wall_and_has_the_smallest_numbers(self):
        for length, stones in (*WALLS, *MANY_ROWS):
            fits = expected_fits(length, stones)
            for height in range(1, 9):
                told = last(*build(length, stones), (FIRST_WALL, height))
                wanted = expected_first_wall(length, stones, height)
                self.assertEqual(told, [-33] if wanted is None else [height] + wanted, (length, stones))
                if told != [-33]:
                    self.assertEqual(last(*build(length, stones), (CHECK_WALL, told[1:])), [1], (length, stones))
                    self.assertTrue(is_expected_wall(told[1:], fits))
                    self.assertEqual(told[0], len(told) - 1)

    def test_told_exactly_where_there_are_walls(self):
        for length, stones in (*walls_with_few_rows(), *MANY_ROWS):
            heights = range(1, 9)
            told = ask(*build(length, stones), *[(operation, height) for operation in (WALL_COUNT, FIRST_WALL)
                                                 for height in heights])[1 + len(stones):]
            for count, wall in zip(told[:8], told[8:]):
                self.assertEqual(count == [0], wall == [-33], (length, stones))

    def test_row_0_can_not_be_the_lowest(self):
        # The row 1 1 1 has all joints, so that only a row without joints could lie on it.
        told = ask(*build(3, [1, 2]), *[(FIRST_WALL, height) for height in range(1, 5)])
        self.assertEqual(told[3:], [[1, 0], [2, 1, 2], [3, 1, 2, 1], [4, 1, 2, 1, 2]])
        told = ask(*build(3, [1, 2, 3]), *[(FIRST_WALL, height) for height in range(1, 5)])
        self.assertEqual(told[4:], [[1, 0], [2, 0, 3], [3, 0, 3, 0], [4, 0, 3, 0, 3]])

    def test_several_lowest_rows_that_bear_nothing(self):
        for length, stones in walls_with_few_rows():
            fits = expected_fits(length, stones)
            lowest = [i for i in range(len(fits)) if any(fits[i])]
            if lowest and lowest[0] >= 2:
                told = last(*build(length, stones), (FIRST_WALL, 8))
                self.assertEqual(told[:2], [8, lowest[0]])
                return
        self.fail("there is no such wall")

    def test_no_later_row_has_to_pass_over_the_smallest_compatible_one(self):
        # What lies on a row may carry that row in turn, so each row is the smallest that lies on the one beneath.
        for length, stones in (*WALLS, *MANY_ROWS):
            fits = expected_fits(length, stones)
            told = last(*build(length, stones), (FIRST_WALL, 8))
            for below, above in zip(told[1:], told[2:]):
                self.assertEqual(above, fits[below].index(True), (length, stones))

    def test_told_by_hand(self):
        # The rows 2 2 3, 2 3 2 and 3 2 2: the middle one lies on none.
        self.assertEqual(last(*build(7, [2, 3]), (FIRST_WALL, 4)), [4, 0, 2, 0, 2])
        # The one row 7.
        self.assertEqual(last(*build(7, [7, 3]), (FIRST_WALL, 3)), [3, 0, 0, 0])
        # The rows 3 3 and 6: the first lies on the second alone, the second on both.
        self.assertEqual(last(*build(6, [6, 3]), (FIRST_WALL, 5)), [5, 0, 1, 0, 1, 0])

    def test_height_out_of_range(self):
        for length, stones in (*WALLS, *NO_ROWS):
            for height in (LEAST, -8, -1, 0, 9, 60, GREATEST):
                self.assertEqual(last(*build(length, stones), (FIRST_WALL, height)), [-22], (length, stones, height))

    def test_no_rows(self):
        for length, stones in NO_ROWS:
            told = ask(*build(length, stones), *[(FIRST_WALL, height) for height in range(1, 9)])
            self.assertEqual(told[1 + len(stones):], [[-33]] * 8)

    def test_rows_but_no_wall(self):
        told = ask(*build(6, [3]), *[(FIRST_WALL, height) for height in range(1, 9)])
        self.assertEqual(told[2:], [[1, 0]] + [[-33]] * 7)

    def test_one_row_without_joints(self):
        for length in (1, 4, 9):
            told = ask(*build(length, [length]), *[(FIRST_WALL, height) for height in range(1, 9)])
            self.assertEqual(told[2:], [[height] + [0] * height for height in range(1, 9)])


class LoneliestRowTest(unittest.TestCase):
    def test_every_wall(self):
        for length, stones in (*walls_with_few_rows(), *WALLS, *MANY_ROWS):
            if expected_rows(length, stones):
                told = last(*build(length, stones), (LONELIEST_ROW,))
                self.assertEqual(told, expected_loneliest(length, stones), (length, stones))

    def test_told_by_hand(self):
        # The rows 2 2 3, 2 3 2 and 3 2 2: the middle one shares a joint with each.
        self.assertEqual(last(*build(7, [2, 3]), (LONELIEST_ROW,)), [1, 0])
        self.assertEqual(last(*build(3, [1, 2]), (LONELIEST_ROW,)), [0, 0])
        self.assertEqual(last(*build(2, [1, 2]), (LONELIEST_ROW,)), [0, 1])

    def test_the_smallest_of_several(self):
        for length, stones in ((6, [3, 2]), (8, [5, 3]), (9, [5, 4])):
            told = ask(*build(length, stones), (COMPATIBLE_COUNT, 0), (COMPATIBLE_COUNT, 1), (LONELIEST_ROW,))
            self.assertEqual(told[3:], [[1], [1], [0, 1]])
        counts = [sum(fitting) for fitting in expected_fits(9, (2, 3, 4))]
        self.assertGreater(counts.count(min(counts)), 1)
        self.assertEqual(last(*build(9, [2, 3, 4]), (LONELIEST_ROW,)), [counts.index(min(counts)), min(counts)])

    def test_not_always_row_0(self):
        numbers = {last(*build(length, stones), (LONELIEST_ROW,))[0] for length, stones in walls_with_few_rows()
                   if expected_rows(length, stones)}
        self.assertTrue({0, 1, 2} <= numbers, numbers)

    def test_one_row(self):
        for length in range(1, 10):
            self.assertEqual(last(*build(length, [length]), (LONELIEST_ROW,)), [0, 1])
        self.assertEqual(last(*build(6, [3]), (LONELIEST_ROW,)), [0, 0])

    def test_no_rows(self):
        for length, stones in NO_ROWS:
            self.assertEqual(last(*build(length, stones), (LONELIEST_ROW,)), [-33])


class CheckWallTest(unittest.TestCase):
    def test_all_short_lists(self):
        for length, stones in WALLS:
            fits = expected_fits(length, stones)
            numbers = range(min(len(fits), 9))
            lists = [list(rows) for size in range(4) for rows in product(numbers, repeat=size)]
            told = ask_all(build(length, stones), [(CHECK_WALL, rows) for rows in lists])
            hold(self, told, [[int(is_expected_wall(rows, fits))] for rows in lists], (length, stones))

    def test_pairs_are_those_of_are_compatible(self):
        for length, stones in WALLS:
            rows = expected_rows(length, stones)
            pairs = [(i, j) for i in range(len(rows)) for j in range(len(rows))]
            told = ask_all(build(length, stones), [(CHECK_WALL, [i, j]) for i, j in pairs])
            asked = ask_all(build(length, stones), [(ARE_COMPATIBLE, rows[i], rows[j]) for i, j in pairs])
            hold(self, told, asked, (length, stones))

    def test_the_empty_list(self):
        for length, stones in (*WALLS, *NO_ROWS, *MANY_ROWS):
            self.assertEqual(last(*build(length, stones), (CHECK_WALL, [])), [1], (length, stones))

    def test_one_row(self):
        self.assertEqual(ask(*build(6, [3, 2]), (CHECK_WALL, [0]), (CHECK_WALL, [1]))[3:], [[1], [1]])

    def test_the_same_row_twice(self):
        told = ask(*build(6, [3, 6]), (CHECK_WALL, [0, 0]), (CHECK_WALL, [1, 1]), (CHECK_WALL, [0, 1, 0]),
                   (CHECK_WALL, [1, 1, 0, 0]), (CHECK_WALL, [0, 1, 1, 1, 0]))
        self.assertEqual(told[3:], [[0], [1], [1], [0], [1]])

    def test_70_rows(self):
        wrong_ones = ([1, 1] + [0, 1] * 34, [0, 1] * 20 + [1, 0] * 15, [0, 1] * 34 + [0, 0], [0] * 70, [1] * 70)
        told = ask(*build(6, [3, 2]), (CHECK_WALL, [0, 1] * 35), (CHECK_WALL, [1, 0] * 35),
                   *[(CHECK_WALL, rows) for rows in wrong_ones])
        self.assertEqual(told[3:], [[1], [1]] + [[0]] * len(wrong_ones))
        self.assertEqual(last(*build(6, [6]), (CHECK_WALL, [0] * 70)), [1])

    def test_numbers_that_no_row_has(self):
        good = [[0, 1, 0, 1], [0, 0, 1, 1], [0, 1] * 34 + [0], [1] * 69, []]
        for number in (LEAST, -2, -1, 2, 3, GREATEST):
            for rows in good:
                for place in {0, len(rows) // 2, len(rows)}:
                    wrong = rows[:place] + [number] + rows[place:]
                    told = ask(*build(6, [3, 2]), (CHECK_WALL, wrong), (CHECK_WALL, [0, 1]))
                    self.assertEqual(told[3:], [[-22], [1]], wrong)
            self.assertEqual(last(*build(6, [3, 2]), (CHECK_WALL, [number] * 70)), [-22])

    def test_the_number_of_rows_is_no_row(self):
        for length, stones in (*WALLS, *NO_ROWS, *MANY_ROWS):
            count = len(expected_rows(length, stones))
            told = ask(*build(length, stones), (CHECK_WALL, [count]), (CHECK_WALL, [-1]), (CHECK_WALL, [0, 0, count]))
            self.assertEqual(told[-3:], [[-22]] * 3, (length, stones))
            if count:
                self.assertEqual(last(*build(length, stones), (CHECK_WALL, [count - 1])), [1], (length, stones))

    def test_no_rows(self):
        for length, stones in NO_ROWS:
            told = ask(*build(length, stones), (CHECK_WALL, [0]), (CHECK_WALL, [0] * 70), (CHECK_WALL, [LEAST]))
            self.assertEqual(told[-3:], [[-22]] * 3)


if __name__ == "__main__":
    unittest.main()
