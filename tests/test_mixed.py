"""Calls of all kinds, mixed in requests of 60, against the document told a second time."""

import unittest

from helper import (
    ADD, ARE_COMPATIBLE, CHECK_WALL, COMPATIBLE_COUNT, CREATE, DESCRIBE, Expected, FIRST_WALL, GREATEST,
    IMPOSSIBLE_LENGTHS, IS_POSSIBLE_LENGTH, JOINTS, LEAST, LONELIEST_ROW, MIN_STONES, REMOVE, ROW, ROW_COUNT,
    SET_LENGTH, WALL_COUNT, decode, encode, expected_fits, hold,
)
from jointwalls.masonry import answers

REQUESTS = 300
# The calls that change the instance come often enough that it is met in many states.
KINDS = (CREATE, ADD, ADD, ADD, ADD, REMOVE, SET_LENGTH, *range(ROW_COUNT, DESCRIBE + 1))
STRAY = (LEAST, -60, -2, -1, 0, 61, 208, GREATEST)


class Picker:
    """Picks numbers, always the same ones for the same seed."""

    def __init__(self, seed):
        self.state = seed

    def below(self, size):
        self.state = (self.state * 6364136223846793005 + 1442695040888963407) % 2 ** 64
        return (self.state >> 33) % size

    def between(self, least, greatest):
        return least + self.below(greatest - least + 1)

    def one_of(self, choices):
        return choices[self.below(len(choices))]


def pick_number(picker, least, greatest):
    """Mostly one from least to greatest, else one beside them or far off."""
    turn = picker.below(12)
    if turn == 0:
        return picker.one_of(STRAY)
    if turn == 1:
        return picker.one_of((least - 1, greatest + 1))
    return picker.between(least, max(least, greatest))


def pick_stones(picker, rows):
    """Mostly the stones of a row, else a list that is none or is a row by chance."""
    if rows and picker.below(4):
        return list(picker.one_of(rows))
    return [pick_number(picker, 1, 9) for turn in range(picker.one_of((0, 1, 2, 3, 5, 70)))]


def pick_wall(picker, expected):
    """A list of row numbers, each lying on the one beneath where the turn wants it so, at times with a wrong one."""
    fits = expected_fits(expected.length, expected.stones) if expected.length else []
    size = picker.one_of((0, 1, 2, 2, 3, 4, 8, 70))
    if not fits:
        return [picker.below(3) for turn in range(size)]
    whole = picker.below(3)
    numbers = []
    for turn in range(size):
        above = [i for i in range(len(fits)) if fits[numbers[-1]][i]] if numbers else []
        numbers.append(picker.one_of(above) if above and whole else picker.below(len(fits)))
    if numbers and picker.below(8) == 0:
        numbers[picker.below(size)] = picker.one_of((-1, len(fits), LEAST, GREATEST))
    return numbers


def pick_call(picker, expected):
    """A call that is mostly a good one where the calls before have led to."""
    operation = picker.one_of(KINDS)
    if operation in (ROW_COUNT, IMPOSSIBLE_LENGTHS, LONELIEST_ROW, DESCRIBE):
        return (operation,)
    rows = expected.rows() if expected.length else []
    if operation in (CREATE, ADD, REMOVE, SET_LENGTH):
        return (operation, pick_number(picker, 1, 9))
    if operation in (ROW, JOINTS, COMPATIBLE_COUNT):
        return (operation, pick_number(picker, 0, len(rows) - 1))
    if operation in (WALL_COUNT, FIRST_WALL):
        return (operation, pick_number(picker, 0, 8))
    if operation in (IS_POSSIBLE_LENGTH, MIN_STONES):
        return (operation, pick_number(picker, 0, 60))
    if operation == ARE_COMPATIBLE:
        return (operation, pick_stones(picker, rows), pick_stones(picker, rows))
    assert operation == CHECK_WALL
    return (operation, pick_wall(picker, expected))


class MixedTest(unittest.TestCase):
    def test_requests_of_60_calls(self):
        met = set()
        for seed in range(REQUESTS):
            picker = Picker(seed)
            expected = Expected()
            calls = []
            wanted = []
            for turn in range(60):
                calls.append(pick_call(picker, expected))
                wanted.append(expected.answer(calls[-1]))
                met.add((calls[-1][0], min(wanted[-1][0], 0)))
            numbers = encode(calls)
            copy = list(numbers)
            told = decode(answers(numbers))
            self.assertEqual(len(told), 60, seed)
            hold(self, list(zip(calls, told)), list(zip(calls, wanted)), seed)
            self.assertEqual(numbers, copy, seed)
        self.assertEqual(met, self.all_kinds())

    def all_kinds(self):
        """Each operation with each code that it has, and with 0 where it is answered without one."""
        codes = {
            CREATE: (-22,), ADD: (-22, -17, -28), REMOVE: (-2,), SET_LENGTH: (-22,), ROW: (-2,), JOINTS: (-2,),
            COMPATIBLE_COUNT: (-2,), ARE_COMPATIBLE: (-22,), WALL_COUNT: (-22,), FIRST_WALL: (-22, -33),
            IS_POSSIBLE_LENGTH: (-22,), MIN_STONES: (-22, -33), LONELIEST_ROW: (-33,), CHECK_WALL: (-22,),
        }
        kinds = {(operation, 0) for operation in range(17)}
        kinds |= {(operation, -11) for operation in range(1, 17)}
        return kinds | {(operation, code) for operation in codes for code in codes[operation]}


if __name__ == "__main__":
    unittest.main()
