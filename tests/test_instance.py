"""create, the stone lengths and the length: answers, errors and their order, what is left behind."""

import unittest

from helper import (
    ADD, ARE_COMPATIBLE, COMPATIBLE_COUNT, CREATE, GOOD_CALLS, GREATEST, JOINTS, LEAST, REMOVE, ROW, ROW_COUNT,
    SET_LENGTH, ask, build, instance_after, last,
)

OUT_OF_RANGE = (LEAST, -9, -1, 0, 10, GREATEST)


class CreateTest(unittest.TestCase):
    def test_every_length_in_range(self):
        for length in range(1, 10):
            self.assertEqual(ask((CREATE, length)), [[0]])
            self.assertEqual(instance_after((CREATE, length)), (length, []))

    def test_length_out_of_range(self):
        for length in OUT_OF_RANGE:
            self.assertEqual(ask((CREATE, length), (ROW_COUNT,)), [[-22], [-11]])

    def test_replaces_an_instance(self):
        for length in (6, 1, 9):
            calls = build(6, [3, 2]) + [(CREATE, length)]
            self.assertEqual(last(*calls), [0])
            self.assertEqual(instance_after(*calls), (length, []))

    def test_keeps_the_instance_where_it_refuses(self):
        for length in OUT_OF_RANGE:
            calls = build(6, [3, 2]) + [(CREATE, length)]
            self.assertEqual(last(*calls), [-22])
            self.assertEqual(instance_after(*calls), (6, [2, 3]))

    def test_the_replaced_instance_takes_four_stone_lengths_anew(self):
        told = ask(*build(6, [1, 2, 3, 4]), *build(7, [4, 3, 2, 1]))
        self.assertEqual(told, [[0], [1], [2], [3], [4]] * 2)


class NoInstanceTest(unittest.TestCase):
    WRONG_CALLS = [(operation, number) for number in OUT_OF_RANGE
                   for operation in (ADD, REMOVE, SET_LENGTH, ROW, JOINTS, COMPATIBLE_COUNT)]
    WRONG_LISTS = [(ARE_COMPATIBLE, [], []), (ARE_COMPATIBLE, [0], [-1, 5]), (ARE_COMPATIBLE, [LEAST] * 70, [])]
    # The operations 9 to 16 of the interface.
    FURTHER_CALLS = [(9, 3), (10, 0), (11, 61), (12,), (13, -1), (14,), (15, []), (15, [0, 1]), (16,)]

    def refused(self, *before):
        for call in [*GOOD_CALLS[1:], *self.WRONG_CALLS, *self.WRONG_LISTS, *self.FURTHER_CALLS]:
            self.assertEqual(ask(*before, call)[-1], [-11], call)

    def test_every_other_operation_is_refused(self):
        self.refused()

    def test_also_behind_a_create_that_failed(self):
        self.refused((CREATE, 0))
        self.refused((CREATE, 10), (CREATE, LEAST))

    def test_refused_calls_are_walked_to_their_end(self):
        calls = [*GOOD_CALLS[1:], *self.WRONG_LISTS, *self.FURTHER_CALLS]
        told = ask(*calls, (CREATE, 4), (ROW_COUNT,))
        self.assertEqual(told, [[-11]] * len(calls) + [[0], [0]])

    def test_refused_calls_leave_nothing_behind(self):
        self.assertEqual(instance_after((ADD, 4), (SET_LENGTH, 7), (CREATE, 5)), (5, []))


class AddStoneLengthTest(unittest.TestCase):
    def test_every_length_in_range(self):
        for k in range(1, 10):
            self.assertEqual(last((CREATE, 5), (ADD, k)), [1])
            self.assertEqual(instance_after((CREATE, 5), (ADD, k)), (5, [k]))

    def test_counts_up_to_four(self):
        self.assertEqual(ask(*build(9, [9, 1, 5, 3])), [[0], [1], [2], [3], [4]])
        self.assertEqual(instance_after(*build(9, [9, 1, 5, 3])), (9, [1, 3, 5, 9]))

    def refused(self, stones, k, code):
        calls = build(6, stones) + [(ADD, k)]
        self.assertEqual(last(*calls), [code], (stones, k))
        self.assertEqual(instance_after(*calls), (6, sorted(stones)), (stones, k))

    def test_out_of_range(self):
        for k in OUT_OF_RANGE:
            self.refused([], k, -22)
            self.refused([3, 2], k, -22)

    def test_already_available(self):
        for k in (3, 9, 1):
            self.refused([3, 9, 1], k, -17)

    def test_a_fifth(self):
        for k in (1, 4, 9):
            self.refused([2, 3, 5, 7], k, -28)

    def test_already_available_is_told_ahead_of_too_many(self):
        for k in (8, 2, 6, 4):
            self.refused([8, 2, 6, 4], k, -17)

    def test_out_of_range_is_told_ahead_of_too_many(self):
        for k in OUT_OF_RANGE:
            self.refused([1, 2, 3, 9], k, -22)


class RemoveStoneLengthTest(unittest.TestCase):
    def test_counts_down(self):
        calls = build(6, [4, 2, 1, 9]) + [(REMOVE, 2), (REMOVE, 9), (REMOVE, 4), (REMOVE, 1)]
        self.assertEqual(ask(*calls)[5:], [[3], [2], [1], [0]])
        self.assertEqual(instance_after(*calls[:6]), (6, [1, 4, 9]))
        self.assertEqual(instance_after(*calls), (6, []))

    def test_not_available(self):
        for stones in ([], [3], [3, 2, 5, 7]):
            for k in (1, 9, *OUT_OF_RANGE):
                calls = build(6, stones) + [(REMOVE, k)]
                self.assertEqual(last(*calls), [-2], k)
                self.assertEqual(instance_after(*calls), (6, sorted(stones)))

    def test_removed_twice(self):
        self.assertEqual(ask(*build(6, [3]), (REMOVE, 3), (REMOVE, 3))[2:], [[0], [-2]])

    def test_another_can_be_added_behind_it(self):
        calls = build(6, [1, 2, 3, 4]) + [(ADD, 5), (REMOVE, 2), (ADD, 5), (ADD, 2)]
        self.assertEqual(ask(*calls)[5:], [[-28], [3], [4], [-28]])
        self.assertEqual(instance_after(*calls), (6, [1, 3, 4, 5]))


class SetLengthTest(unittest.TestCase):
    def test_answers_the_length_before(self):
        lengths = [4, 4, 1, 9, 2]
        told = ask((CREATE, 6), *[(SET_LENGTH, length) for length in lengths])
        self.assertEqual(told[1:], [[6], [4], [4], [1], [9]])

    def test_every_length_in_range(self):
        for length in range(1, 10):
            self.assertEqual(instance_after(*build(6, [3, 2]), (SET_LENGTH, length)), (length, [2, 3]))

    def test_out_of_range(self):
        for length in OUT_OF_RANGE:
            calls = build(6, [3, 2]) + [(SET_LENGTH, length)]
            self.assertEqual(last(*calls), [-22])
            self.assertEqual(instance_after(*calls), (6, [2, 3]))

    def test_changes_the_rows(self):
        calls = build(6, [3, 2]) + [(SET_LENGTH, 5), (ROW_COUNT,), (ROW, 1), (ARE_COMPATIBLE, [3, 3], [3, 2]),
                                    (ARE_COMPATIBLE, [2, 3], [3, 2])]
        self.assertEqual(ask(*calls)[3:], [[6], [2], [2, 3, 2], [-22], [1]])


if __name__ == "__main__":
    unittest.main()
