"""create, the stone lengths, the length and describe: answers, errors, what every call leaves behind."""

import unittest

from helper import (
    ADD, ARE_COMPATIBLE, CHECK_WALL, COMPATIBLE_COUNT, CREATE, DESCRIBE, FIRST_WALL, GOOD_CALLS, GREATEST,
    IMPOSSIBLE_LENGTHS, IS_POSSIBLE_LENGTH, JOINTS, LEAST, LONELIEST_ROW, MIN_STONES, REMOVE, ROW, ROW_COUNT,
    SET_LENGTH, WALL_COUNT, ask, build, instance_after, last,
)

OUT_OF_RANGE = (LEAST, -9, -1, 0, 10, GREATEST)


class CreateTest(unittest.TestCase):
    def test_every_length_in_range(self):
        for length in range(1, 10):
            self.assertEqual(ask((CREATE, length)), [[0]])
            self.assertEqual(instance_after((CREATE, length)), (length, []))

    def test_length_out_of_range(self):
        for length in OUT_OF_RANGE:
            self.assertEqual(ask((CREATE, length), (ROW_COUNT,)), [[-22], [-11]])

    def test_replaces_an_instance(self):
        for length in (6, 1, 9):
            calls = build(6, [3, 2]) + [(CREATE, length)]
            self.assertEqual(last(*calls), [0])
            self.assertEqual(instance_after(*calls), (length, []))

    def test_keeps_the_instance_where_it_refuses(self):
        for length in OUT_OF_RANGE:
            calls = build(6, [3, 2]) + [(CREATE, length)]
            self.assertEqual(last(*calls), [-22])
            self.assertEqual(instance_after(*calls), (6, [2, 3]))

    def test_the_replaced_instance_takes_four_stone_lengths_anew(self):
        told = ask(*build(6, [1, 2, 3, 4]), *build(7, [4, 3, 2, 1]))
        self.assertEqual(told, [[0], [1], [2], [3], [4]] * 2)


class NoInstanceTest(unittest.TestCase):
    WRONG_CALLS = [(operation, number) for number in (*OUT_OF_RANGE, 61) for operation in (
        ADD, REMOVE, SET_LENGTH, ROW, JOINTS, COMPATIBLE_COUNT, WALL_COUNT, FIRST_WALL, IS_POSSIBLE_LENGTH, MIN_STONES)]
    WRONG_LISTS = [(ARE_COMPATIBLE, [], []), (ARE_COMPATIBLE, [0], [-1, 5]), (ARE_COMPATIBLE, [LEAST] * 70, []),
                   (CHECK_WALL, []), (CHECK_WALL, [0]), (CHECK_WALL, [-1, 5]), (CHECK_WALL, [GREATEST] * 70)]

    def refused(self, *before):
        for call in [*GOOD_CALLS[1:], *self.WRONG_CALLS, *self.WRONG_LISTS]:
            self.assertEqual(ask(*before, call)[-1], [-11], call)

    def test_every_other_operation_is_refused(self):
        self.refused()

    def test_also_behind_a_create_that_failed(self):
        self.refused((CREATE, 0))
        self.refused((CREATE, 10), (CREATE, LEAST))

    def test_refused_calls_are_walked_to_their_end(self):
        calls = [*GOOD_CALLS[1:], *self.WRONG_LISTS]
        told = ask(*calls, (CREATE, 4), (ROW_COUNT,))
        self.assertEqual(told, [[-11]] * len(calls) + [[0], [0]])

    def test_refused_calls_leave_nothing_behind(self):
        self.assertEqual(instance_after((ADD, 4), (SET_LENGTH, 7), (CREATE, 5)), (5, []))


class AddStoneLengthTest(unittest.TestCase):
    def test_every_length_in_range(self):
        for k in range(1, 10):
            self.assertEqual(last((CREATE, 5), (ADD, k)), [1])
            self.assertEqual(instance_after((CREATE, 5), (ADD, k)), (5, [k]))

    def test_counts_up_to_four(self):
        self.assertEqual(ask(*build(9, [9, 1, 5, 3])), [[0], [1], [2], [3], [4]])
        self.assertEqual(instance_after(*build(9, [9, 1, 5, 3])), (9, [1, 3, 5, 9]))

    def refused(self, stones, k, code):
        calls = build(6, stones) + [(ADD, k)]
        self.assertEqual(last(*calls), [code], (stones, k))
        self.assertEqual(instance_after(*calls), (6, sorted(stones)), (stones, k))

    def test_out_of_range(self):
        for k in OUT_OF_RANGE:
            self.refused([], k, -22)
            self.refused([3, 2], k, -22)

    def test_already_available(self):
        for k in (3, 9, 1):
            self.refused([3, 9, 1], k, -17)

    def test_a_fifth(self):
        for k in (1, 4, 9):
            self.refused([2, 3, 5, 7], k, -28)

    def test_already_available_is_told_ahead_of_too_many(self):
        for k in (8, 2, 6, 4):
            self.refused([8, 2, 6, 4], k, -17)

    def test_out_of_range_is_told_ahead_of_too_many(self):
        for k in OUT_OF_RANGE:
            self.refused([1, 2, 3, 9], k, -22)


class RemoveStoneLengthTest(unittest.TestCase):
    def test_counts_down(self):
        calls = build(6, [4, 2, 1, 9]) + [(REMOVE, 2), (REMOVE, 9), (REMOVE, 4), (REMOVE, 1)]
        self.assertEqual(ask(*calls)[5:], [[3], [2], [1], [0]])
        self.assertEqual(instance_after(*calls[:6]), (6, [1, 4, 9]))
        self.assertEqual(instance_after(*calls), (6, []))

    def test_not_available(self):
        for stones in ([], [3], [3, 2, 5, 7]):
            for k in (1, 9, *OUT_OF_RANGE):
                calls = build(6, stones) + [(REMOVE, k)]
                self.assertEqual(last(*calls), [-2], k)
                self.assertEqual(instance_after(*calls), (6, sorted(stones)))

    def test_removed_twice(self):
        self.assertEqual(ask(*build(6, [3]), (REMOVE, 3), (REMOVE, 3))[2:], [[0], [-2]])

    def test_another_can_be_added_behind_it(self):
        calls = build(6, [1, 2, 3, 4]) + [(ADD, 5), (REMOVE, 2), (ADD, 5), (ADD, 2)]
        self.assertEqual(ask(*calls)[5:], [[-28], [3], [4], [-28]])
        self.assertEqual(instance_after(*calls), (6, [1, 3, 4, 5]))


class SetLengthTest(unittest.TestCase):
    def test_answers_the_length_before(self):
        lengths = [4, 4, 1, 9, 2]
        told = ask((CREATE, 6), *[(SET_LENGTH, length) for length in lengths])
        self.assertEqual(told[1:], [[6], [4], [4], [1], [9]])

    def test_every_length_in_range(self):
        for length in range(1, 10):
            self.assertEqual(instance_after(*build(6, [3, 2]), (SET_LENGTH, length)), (length, [2, 3]))

    def test_out_of_range(self):
        for length in OUT_OF_RANGE:
            calls = build(6, [3, 2]) + [(SET_LENGTH, length)]
            self.assertEqual(last(*calls), [-22])
            self.assertEqual(instance_after(*calls), (6, [2, 3]))

    def test_changes_the_rows(self):
        calls = build(6, [3, 2]) + [(SET_LENGTH, 5), (ROW_COUNT,), (ROW, 1), (ARE_COMPATIBLE, [3, 3], [3, 2]),
                                    (ARE_COMPATIBLE, [2, 3], [3, 2])]
        self.assertEqual(ask(*calls)[3:], [[6], [2], [2, 3, 2], [-22], [1]])


class DescribeTest(unittest.TestCase):
    def test_without_stone_lengths(self):
        for length in range(1, 10):
            self.assertEqual(ask((CREATE, length), (DESCRIBE,))[1], [length, 0])

    def test_stone_lengths_ascend_in_whatever_order_they_came(self):
        for stones in ([1, 4, 7, 9], [9, 7, 4, 1], [7, 1, 9, 4], [4, 9, 1, 7]):
            self.assertEqual(last(*build(6, stones), (DESCRIBE,)), [6, 4, 1, 4, 7, 9])

    def test_behind_each_change(self):
        calls = [(CREATE, 6), (ADD, 3), (ADD, 2), (REMOVE, 3), (SET_LENGTH, 9), (ADD, 1), (REMOVE, 2), (REMOVE, 1),
                 (CREATE, 4)]
        told = ask(*[call for change in calls for call in (change, (DESCRIBE,))])[1::2]
        self.assertEqual(told, [[6, 0], [6, 1, 3], [6, 2, 2, 3], [6, 1, 2], [9, 1, 2], [9, 2, 1, 2], [9, 1, 1], [9, 0],
                                [4, 0]])

    def test_behind_changes_that_failed(self):
        start = build(6, [5, 3, 2, 8])
        for change in ((CREATE, 10), (ADD, 3), (ADD, 4), (ADD, 0), (REMOVE, 4), (SET_LENGTH, 0)):
            told = ask(*start, change, (DESCRIBE,))
            self.assertLess(told[-2][0], 0)
            self.assertEqual(told[-1], [6, 4, 2, 3, 5, 8])


class UnchangedTest(unittest.TestCase):
    # Of each call from number 4 on some that are answered and all that are refused.
    CALLS = [
        (ROW_COUNT,), (ROW, 1), (ROW, -1), (ROW, 2), (JOINTS, 1), (JOINTS, -1), (JOINTS, 2), (COMPATIBLE_COUNT, 1),
        (COMPATIBLE_COUNT, -1), (COMPATIBLE_COUNT, 2), (ARE_COMPATIBLE, [3, 3], [2, 2, 2]),
        (ARE_COMPATIBLE, [3, 3], [3, 3]), (ARE_COMPATIBLE, [], [5, 1]), (ARE_COMPATIBLE, [2, 2, 2], [4]),
        (WALL_COUNT, 0), (WALL_COUNT, 8), (WALL_COUNT, -1), (WALL_COUNT, 9), (FIRST_WALL, 1), (FIRST_WALL, 8),
        (FIRST_WALL, 0), (FIRST_WALL, 9), (IS_POSSIBLE_LENGTH, 1), (IS_POSSIBLE_LENGTH, 60), (IS_POSSIBLE_LENGTH, -1),
        (IS_POSSIBLE_LENGTH, 61), (IMPOSSIBLE_LENGTHS,), (MIN_STONES, 60), (MIN_STONES, 1), (MIN_STONES, -1),
        (MIN_STONES, 61), (LONELIEST_ROW,), (CHECK_WALL, []), (CHECK_WALL, [0, 1] * 35), (CHECK_WALL, [1, 1]),
        (CHECK_WALL, [0, 2]), (DESCRIBE,),
    ]
    BEHIND = [(DESCRIBE,), (ROW_COUNT,), (ROW, 0), (ROW, 1), (JOINTS, 0), (JOINTS, 1), (COMPATIBLE_COUNT, 0),
              (WALL_COUNT, 5), (FIRST_WALL, 5), (IMPOSSIBLE_LENGTHS,), (MIN_STONES, 17), (LONELIEST_ROW,),
              (ADD, 6), (DESCRIBE,), (SET_LENGTH, 8), (REMOVE, 3), (DESCRIBE,)]

    def test_calls_from_number_4_on_leave_the_instance(self):
        wanted = ask(*build(6, [3, 2]), *self.BEHIND)[3:]
        for call in self.CALLS:
            self.assertEqual(instance_after(*build(6, [3, 2]), call), (6, [2, 3]), call)
            self.assertEqual(ask(*build(6, [3, 2]), call, *self.BEHIND)[4:], wanted, call)
        self.assertEqual(instance_after(*build(6, [3, 2]), *self.CALLS), (6, [2, 3]))
        self.assertEqual(ask(*build(6, [3, 2]), *self.CALLS, *self.BEHIND)[-len(self.BEHIND):], wanted)

    def test_also_where_there_are_no_rows_and_no_walls(self):
        for stones in ([], [4], [9, 7, 8]):
            described = [6, len(stones)] + sorted(stones)
            for call in self.CALLS:
                told = ask(*build(6, stones), call, (DESCRIBE,), (SET_LENGTH, 9), (DESCRIBE,))
                self.assertEqual(told[-3:], [described, [6], [9] + described[1:]], (stones, call))


if __name__ == "__main__":
    unittest.main()
