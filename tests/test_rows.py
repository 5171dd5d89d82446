"""row_count, row, joints, compatible_count and are_compatible, held against the document's terms."""

import unittest

from helper import (
    ARE_COMPATIBLE, COMPATIBLE_COUNT, GREATEST, JOINTS, LEAST, REMOVE, ROW, ROW_COUNT, WALLS, ask, ask_all, build,
    expected_compatible, expected_joints, expected_rows, hold, last, stone_choices,
)

class RowTest(unittest.TestCase):
    def test_rows_and_joints_of_every_wall(self):
        for stones in stone_choices():
            for length in range(1, 10):
                start = build(length, stones)
                rows = expected_rows(length, stones)
                self.assertEqual(last(*start, (ROW_COUNT,)), [len(rows)], (length, stones))
                # All rows are asked for where there are not too many; of many only both ends.
                numbers = range(len(rows)) if len(rows) <= 25 else [0, 1, len(rows) - 2, len(rows) - 1]
                calls = [(operation, i) for operation in (ROW, JOINTS) for i in numbers]
                wanted = [[len(rows[i])] + rows[i] for i in numbers]
                wanted += [[len(rows[i]) - 1] + expected_joints(rows[i]) for i in numbers]
                hold(self, ask_all(start, calls), wanted, (length, stones))

    def test_row_numbers_that_are_not_there(self):
        for length, stones in WALLS:
            count = len(expected_rows(length, stones))
            for operation in (ROW, JOINTS, COMPATIBLE_COUNT):
                for i in (LEAST, -count, -1, count, count + 1, GREATEST):
                    if not 0 <= i < count:
                        self.assertEqual(last(*build(length, stones), (operation, i)), [-2], (length, stones, i))

    def test_no_stone_lengths(self):
        told = ask(*build(1, []), (ROW_COUNT,), (ROW, 0), (JOINTS, 0), (COMPATIBLE_COUNT, 0))
        self.assertEqual(told[1:], [[0], [-2], [-2], [-2]])

    def test_one_length_that_does_not_fit(self):
        for k in (2, 3, 6):
            told = ask(*build(5, [k]), (ROW_COUNT,), (ROW, 0), (JOINTS, 0), (COMPATIBLE_COUNT, 0))
            self.assertEqual(told[2:], [[0], [-2], [-2], [-2]])

    def test_one_stone_that_is_the_whole_row(self):
        for length in range(1, 10):
            told = ask(*build(length, [length]), (ROW_COUNT,), (ROW, 0), (JOINTS, 0), (ROW, 1), (JOINTS, 1))
            self.assertEqual(told[2:], [[1], [1, length], [0], [-2], [-2]])

    def test_four_lengths_in_the_longest_wall(self):
        for stones in ((1, 2, 3, 4), (9, 5, 1, 7)):
            start = build(9, stones)
            rows = expected_rows(9, stones)
            told = ask_all(start, [(ROW, i) for i in range(len(rows))])
            self.assertEqual(last(*start, (ROW_COUNT,)), [len(rows)])
            hold(self, told, [[len(row)] + row for row in rows], stones)
            self.assertEqual(last(*start, (ROW, len(rows))), [-2])
        self.assertEqual(last(*build(9, [4, 3, 2, 1]), (ROW_COUNT,)), [208])

    def test_rows_go_with_the_stone_lengths(self):
        calls = build(6, [3, 1]) + [(ROW_COUNT,), (REMOVE, 1), (ROW_COUNT,), (ROW, 0), (REMOVE, 3), (ROW_COUNT,)]
        self.assertEqual(ask(*calls)[3:], [[6], [1], [1], [2, 3, 3], [0], [0]])


class CompatibleTest(unittest.TestCase):
    def test_all_pairs_of_rows(self):
        for length, stones in WALLS:
            rows = expected_rows(length, stones)
            pairs = [(first, second) for first in rows for second in rows]
            told = ask_all(build(length, stones), [(ARE_COMPATIBLE, first, second) for first, second in pairs])
            hold(self, told, [[int(expected_compatible(*pair))] for pair in pairs], (length, stones))

    def test_counts(self):
        for length, stones in (*WALLS, (9, (1, 2, 3, 4))):
            rows = expected_rows(length, stones)
            told = ask_all(build(length, stones), [(COMPATIBLE_COUNT, i) for i in range(len(rows))])
            wanted = [[len([row for row in rows if expected_compatible(row, other)])] for other in rows]
            hold(self, told, wanted, (length, stones))

    def test_symmetric_and_the_same_for_reversed_rows(self):
        for length, stones in WALLS:
            start = build(length, stones)
            rows = expected_rows(length, stones)
            pairs = [(first, second) for first in rows for second in rows]
            told = ask_all(start, [(ARE_COMPATIBLE, first, second) for first, second in pairs])
            turned = ask_all(start, [(ARE_COMPATIBLE, second, first) for first, second in pairs])
            reverse = ask_all(start, [(ARE_COMPATIBLE, first[::-1], second[::-1]) for first, second in pairs])
            hold(self, turned, told, (length, stones))
            hold(self, reverse, told, (length, stones))

    def test_a_row_against_itself(self):
        start = build(6, [6, 3, 2, 1])
        told = ask(*start, (ARE_COMPATIBLE, [6], [6]), (ARE_COMPATIBLE, [3, 3], [3, 3]),
                   (ARE_COMPATIBLE, [1, 2, 3], [1, 2, 3]))
        self.assertEqual(told[5:], [[1], [0], [0]])
        self.assertEqual(last(*build(6, [6]), (COMPATIBLE_COUNT, 0)), [1])
        self.assertEqual(last(*build(6, [3]), (COMPATIBLE_COUNT, 0)), [0])

    def test_a_row_without_joints_is_compatible_with_all(self):
        self.assertEqual(ask(*build(6, [1, 6]), (COMPATIBLE_COUNT, 0), (COMPATIBLE_COUNT, 1))[3:], [[1], [2]])

    def test_lists_that_are_not_rows(self):
        start = build(6, [3, 2, 6])
        wrong = [
            [], [0], [-6], [5], [7], [3], [3, 2], [3, 3, 3], [3, 3, 0], [0, 6], [2, 4], [1, 2, 3], [5, 1],
            [3, 2, 2, -1], [6, 3, -3], [6, -6, 6], [LEAST], [GREATEST], [GREATEST, LEAST, 7], [2] * 70, [1] * 70,
            [0] * 70, [3, 3] + [0] * 68, [LEAST] * 70, [GREATEST] * 70,
        ]
        for stones in wrong:
            for first, second in ((stones, [3, 3]), ([2, 2, 2], stones), (stones, stones), (stones, [])):
                told = ask(*start, (ARE_COMPATIBLE, first, second), (ARE_COMPATIBLE, [3, 3], [6]))
                self.assertEqual(told[4:], [[-22], [1]], (first, second))

    def test_no_list_is_a_row_without_stone_lengths(self):
        told = ask(*build(6, []), (ARE_COMPATIBLE, [], []), (ARE_COMPATIBLE, [6], [6]))
        self.assertEqual(told[1:], [[-22], [-22]])


if __name__ == "__main__":
    unittest.main()
