"""The interface: how calls and answers stand in their lists, and that nothing is kept or changed."""

import unittest

from helper import (
    ADD, ARE_COMPATIBLE, CHECK_WALL, CREATE, COMPATIBLE_COUNT, DESCRIBE, FIRST_WALL, GOOD_CALLS, GREATEST,
    IMPOSSIBLE_LENGTHS, JOINTS, LEAST, LONELIEST_ROW, MIN_STONES, REMOVE, ROW, ROW_COUNT, SET_LENGTH, WALL_COUNT,
    ask, build, encode, expected_first_wall, expected_wall_count, hold,
)
from jointwalls.masonry import answers


class ExampleTest(unittest.TestCase):
    def test_the_examples_of_the_document(self):
        rows = [
            ((CREATE, 6), [0]),
            ((ADD, 3), [1]),
            ((ADD, 2), [2]),
            ((ROW_COUNT,), [2]),
            ((ROW, 0), [3, 2, 2, 2]),
            ((JOINTS, 0), [2, 2, 4]),
            ((COMPATIBLE_COUNT, 1), [1]),
            ((WALL_COUNT, 3), [2]),
            ((FIRST_WALL, 3), [3, 0, 1, 0]),
            ((ARE_COMPATIBLE, [2, 2, 2], [3, 3]), [1]),
            ((CHECK_WALL, [0, 0]), [0]),
            ((IMPOSSIBLE_LENGTHS,), [1, 1]),
            ((MIN_STONES, 7), [3]),
            ((LONELIEST_ROW,), [0, 1]),
            ((ADD, 2), [-17]),
        ]
        told = ask(*[call for call, answer in rows])
        self.assertEqual(told, [answer for call, answer in rows])


class ListTest(unittest.TestCase):
    def test_numbers_as_they_are_handed_in_and_given_back(self):
        calls = [0, 6, 1, 3, 1, 2, 4, 5, 0, 6, 0, 7, 1, 8, 3, 2, 2, 2, 2, 3, 3, 1, 2]
        given = [1, 0, 1, 1, 1, 2, 1, 2, 4, 3, 2, 2, 2, 3, 2, 2, 4, 1, 1, 1, 1, 1, -17]
        self.assertEqual(answers(calls), given)

    def test_the_calls_from_9_on_as_they_are_handed_in_and_given_back(self):
        calls = [0, 6, 1, 3, 1, 2, 9, 3, 10, 3, 11, 7, 12, 13, 7, 14, 15, 2, 0, 1, 16, 9, 9, 10, 0, 11, 61, 13, 1]
        given = [1, 0, 1, 1, 1, 2, 1, 2, 4, 3, 0, 1, 0, 1, 1, 2, 1, 1, 1, 3, 2, 0, 1, 1, 1, 4, 6, 2, 2, 3]
        self.assertEqual(answers(calls), given + [1, -22] * 3 + [1, -33])

    def test_one_call(self):
        self.assertEqual(answers([0, 9]), [1, 0])
        self.assertEqual(answers([0, 0]), [1, -22])
        self.assertEqual(answers([4]), [1, -11])

    def test_a_count_of_nothing_is_answered(self):
        self.assertEqual(answers([0, 6, 1, 6, 6, 0]), [1, 0, 1, 1, 1, 0])

    def test_empty_lists_are_walked(self):
        self.assertEqual(answers([8, 0, 0, 0, 4, 8, 0, 0, 4]), [1, -11, 1, 0, 1, -22, 1, 0])
        self.assertEqual(answers([0, 4, 8, 0, 1, 4, 8, 1, 4, 0, 4]), [1, 0, 1, -22, 1, -22, 1, 0])
        given = [1, -11, 1, 0, 1, 1, 2, 4, 0, 1, -22, 2, 4, 0]
        self.assertEqual(answers([15, 0, 0, 4, 15, 0, 16, 15, 1, 0, 16]), given)

    def test_answers_are_plain_whole_numbers_in_a_list(self):
        given = answers(encode(build(5, [2, 3]) + list(GOOD_CALLS[1:])))
        self.assertIs(type(given), list)
        self.assertEqual({type(number) for number in given}, {int})

    def test_the_longest_list_of_calls(self):
        calls = encode([(CREATE, 9)] + [(ARE_COMPATIBLE, [1] * 70, [LEAST] * 70)] * 59)
        self.assertEqual(answers(calls), [1, 0] + [1, -22] * 59)
        without_instance = encode([(ARE_COMPATIBLE, [GREATEST] * 70, [4] * 70)] * 60)
        self.assertEqual(len(without_instance), 8580)
        self.assertEqual(answers(without_instance), [1, -11] * 60)


class LargestCallsTest(unittest.TestCase):
    """Requests of 60 calls of which each is the largest there is, on the wall with the most rows: 208."""

    START = build(9, [4, 3, 2, 1])

    def answered(self, call, answer):
        told = ask(*self.START, *[call] * 55)
        hold(self, told[5:], [answer] * 55, call)

    def test_wall_count(self):
        self.answered((WALL_COUNT, 8), [44004082242])
        self.assertEqual(expected_wall_count(9, (1, 2, 3, 4), 8), 44004082242)

    def test_first_wall(self):
        self.answered((FIRST_WALL, 8), [8] + expected_first_wall(9, (1, 2, 3, 4), 8))

    def test_loneliest_row(self):
        self.answered((LONELIEST_ROW,), [0, 0])

    def test_check_wall(self):
        pair = expected_first_wall(9, (1, 2, 3, 4), 2)
        self.answered((CHECK_WALL, pair * 35), [1])
        self.answered((CHECK_WALL, pair * 34 + pair[:1] * 2), [0])
        self.answered((CHECK_WALL, pair * 34 + [pair[0], 208]), [-22])

    def test_impossible_lengths(self):
        self.answered((IMPOSSIBLE_LENGTHS,), [0])
        told = ask((CREATE, 9), *[(IMPOSSIBLE_LENGTHS,)] * 59)
        hold(self, told[1:], [[60] + list(range(60, 40, -1))] * 59, "no stone lengths")

    def test_min_stones(self):
        self.answered((MIN_STONES, 60), [15])

    def test_all_of_them_by_turns(self):
        calls = [(WALL_COUNT, 8), (FIRST_WALL, 8), (LONELIEST_ROW,), (CHECK_WALL, [0] * 70), (IMPOSSIBLE_LENGTHS,)]
        told = ask(*self.START, *calls * 11)
        hold(self, told[5:], told[5:10] * 11, calls)


class NothingKeptTest(unittest.TestCase):
    CALLS = encode(build(6, [3, 2, 1, 6]) + [
        (ADD, 5), (ROW, 3), (JOINTS, 3), (ARE_COMPATIBLE, [3, 3], [2, 2, 2]), (ARE_COMPATIBLE, [7], []),
        (WALL_COUNT, 4), (FIRST_WALL, 6), (LONELIEST_ROW,), (CHECK_WALL, [0, 1, 2]), (CHECK_WALL, [99]), (DESCRIBE,),
        (REMOVE, 1), (SET_LENGTH, 5), (ROW_COUNT,), (COMPATIBLE_COUNT, 1), (IMPOSSIBLE_LENGTHS,), (MIN_STONES, 59),
        (CREATE, 2), (ROW_COUNT,), (IMPOSSIBLE_LENGTHS,), (DESCRIBE,),
    ])

    def test_argument_is_left_as_it_was(self):
        calls = list(self.CALLS)
        answers(calls)
        self.assertEqual(calls, self.CALLS)

    def test_argument_is_not_changed_for_a_while_either(self):
        class Unchanging(list):
            def refuse(self, *given):
                raise AssertionError("the argument is changed")

            append = extend = insert = pop = remove = clear = sort = reverse = refuse
            __setitem__ = __delitem__ = __iadd__ = __imul__ = refuse

        self.assertEqual(answers(Unchanging(self.CALLS)), answers(list(self.CALLS)))

    def test_second_time_gives_the_same(self):
        first = answers(self.CALLS)
        self.assertEqual(answers(self.CALLS), first)

    def test_what_is_given_back_is_not_kept(self):
        first = answers(self.CALLS)
        copy = list(first)
        first.clear()
        self.assertEqual(answers(self.CALLS), copy)

    def test_each_list_of_calls_begins_without_an_instance(self):
        answers([0, 6, 1, 3])
        self.assertEqual(answers([4]), [1, -11])


if __name__ == "__main__":
    unittest.main()
