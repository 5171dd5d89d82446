"""What the tests share: calls written as tuples, and the document told a second time."""

from functools import lru_cache
from itertools import accumulate, combinations, product

from jointwalls.masonry import answers

(CREATE, ADD, REMOVE, SET_LENGTH, ROW_COUNT, ROW, JOINTS, COMPATIBLE_COUNT, ARE_COMPATIBLE, WALL_COUNT, FIRST_WALL,
 IS_POSSIBLE_LENGTH, IMPOSSIBLE_LENGTHS, MIN_STONES, LONELIEST_ROW, CHECK_WALL, DESCRIBE) = range(17)

LEAST = -2147483648
GREATEST = 2147483647

# Each call, with good arguments where it has any.
GOOD_CALLS = (
    (CREATE, 5), (ADD, 4), (REMOVE, 2), (SET_LENGTH, 7), (ROW_COUNT,), (ROW, 0), (JOINTS, 0),
    (COMPATIBLE_COUNT, 0), (ARE_COMPATIBLE, [2, 3], [3, 2]), (WALL_COUNT, 3), (FIRST_WALL, 2),
    (IS_POSSIBLE_LENGTH, 7), (IMPOSSIBLE_LENGTHS,), (MIN_STONES, 10), (LONELIEST_ROW,), (CHECK_WALL, [0, 1]),
    (DESCRIBE,),
)

# Walls with no row, with a row of one stone, with reversed rows, with equal joints and with many rows.
WALLS = (
    (5, ()), (5, (2, 4)), (1, (1,)), (4, (4,)), (6, (3,)), (3, (1, 2)), (6, (2, 3)), (7, (2, 3, 9)), (8, (5, 3)),
    (9, (9, 8, 1)), (7, (7, 3, 4, 1)), (9, (4, 3, 2)), (6, (1, 2, 3, 6)),
)


def encode(calls):
    """The one list of numbers that the calls are handed in as."""
    numbers = []
    for call in calls:
        numbers.append(call[0])
        for part in call[1:]:
            if isinstance(part, list):
                numbers.append(len(part))
                numbers.extend(part)
            else:
                numbers.append(part)
    return numbers


def decode(given):
    """For each call the list of what it answers."""
    lists = []
    place = 0
    while place < len(given):
        size = given[place]
        assert size >= 1 and place + 1 + size <= len(given), given
        lists.append(given[place + 1:place + 1 + size])
        place += 1 + size
    return lists


def ask(*calls):
    """What one request of these calls answers, call by call."""
    assert 1 <= len(calls) <= 60
    lists = decode(answers(encode(calls)))
    assert len(lists) == len(calls), lists
    return lists


def last(*calls):
    """What the last of the calls answers."""
    return ask(*calls)[-1]


def ask_all(start, calls):
    """What the calls answer behind the calls of start, over as many requests as it takes."""
    lists = []
    step = 60 - len(start)
    for place in range(0, len(calls), step):
        lists += ask(*start, *calls[place:place + step])[len(start):]
    return lists


def hold(test, told, wanted, about):
    """Holds call against call: of long lists compared in one go unittest takes minutes to show a difference."""
    test.assertEqual(len(told), len(wanted), about)
    for place, answer in enumerate(told):
        test.assertEqual(answer, wanted[place], (about, place))


def build(length, stones):
    """The calls that make an instance."""
    return [(CREATE, length)] + [(ADD, k) for k in stones]


def instance_after(*calls):
    """The instance that the calls leave behind: its length and its stone lengths."""
    probe = [(SET_LENGTH, 9)] + [(REMOVE, k) for k in range(1, 10)]
    told = ask(*calls, *probe)[len(calls):]
    return told[0][0], [k for k in range(1, 10) if told[k] != [-2]]


def stone_choices():
    """All choices of at most 4 stone lengths."""
    return [stones for size in range(5) for stones in combinations(range(1, 10), size)]


def expected_rows(length, stones):
    """The rows by the document's words, out of all sequences of stones that are short enough."""
    return rows_of_sorted(length, tuple(sorted(stones)))


@lru_cache(None)
def rows_of_sorted(length, stones):
    rows = []
    for count in range(1, length + 1):
        rows += [list(row) for row in product(stones, repeat=count) if sum(row) == length]
    return sorted(rows)


def expected_joints(row):
    return list(accumulate(row))[:-1]


def expected_compatible(first, second):
    return set(expected_joints(first)).isdisjoint(expected_joints(second))


def expected_fits(length, stones):
    """For each two row numbers whether the rows are compatible."""
    return fits_of_sorted(length, tuple(sorted(stones)))


@lru_cache(None)
def fits_of_sorted(length, stones):
    rows = rows_of_sorted(length, stones)
    return [[expected_compatible(first, second) for second in rows] for first in rows]


def is_expected_wall(numbers, fits):
    return all(fits[below][above] for below, above in zip(numbers, numbers[1:]))


def expected_walls(length, stones, height):
    """All walls of a height in lexicographic order, out of all sequences of so many rows."""
    fits = expected_fits(length, stones)
    sequences = product(range(len(fits)), repeat=height)
    return [list(numbers) for numbers in sequences if is_expected_wall(numbers, fits)]


@lru_cache(None)
def counts_upon(length, stones, height):
    """For each row how many walls of this height have it at the bottom; for walls too many to go through."""
    fits = fits_of_sorted(length, stones)
    if height == 1:
        return [1] * len(fits)
    higher = counts_upon(length, stones, height - 1)
    return [sum(higher[j] for j in range(len(fits)) if fits[i][j]) for i in range(len(fits))]


def expected_wall_count(length, stones, height):
    return sum(counts_upon(length, tuple(sorted(stones)), height)) if height else 1


def expected_first_wall(length, stones, height):
    """The first wall, row by row the smallest that leaves a wall above it; None if there is none."""
    stones = tuple(sorted(stones))
    fits = fits_of_sorted(length, stones)
    wall = []
    for left in range(height, 0, -1):
        counts = counts_upon(length, stones, left)
        choices = [i for i in range(len(fits)) if counts[i] and (not wall or fits[wall[-1]][i])]
        if not choices:
            return None
        wall.append(choices[0])
    return wall


def expected_loneliest(length, stones):
    """The row compatible with the fewest and with how many it is; there is a row."""
    count, i = min((sum(fitting), i) for i, fitting in enumerate(expected_fits(length, stones)))
    return [i, count]


def expected_fewest(stones):
    """For each length up to 60 that is a sum of stones their smallest number, out of all sums of stones."""
    return fewest_of_sorted(tuple(sorted(stones)))


@lru_cache(None)
def fewest_of_sorted(stones):
    sums = [(0, 0)]
    for k in stones:
        sums = [(total + k * n, count + n) for total, count in sums for n in range((60 - total) // k + 1)]
    fewest = {}
    for total, count in sums:
        fewest[total] = min(count, fewest.get(total, count))
    return fewest


def expected_impossible(stones):
    """All impossible lengths in descending order."""
    return [m for m in range(60, -1, -1) if m not in expected_fewest(stones)]


class Expected:
    """What each call answers by the document's words, the calls being done one behind another."""

    def __init__(self):
        self.length = None
        self.stones = []

    def rows(self):
        return expected_rows(self.length, self.stones)

    def answer(self, call):
        if call[0] == CREATE:
            if not 1 <= call[1] <= 9:
                return [-22]
            self.length = call[1]
            self.stones = []
            return [0]
        if self.length is None:
            return [-11]
        if call[0] in (ADD, REMOVE, SET_LENGTH):
            return self.change(*call)
        if call[0] in (ROW, JOINTS, COMPATIBLE_COUNT):
            return self.ask_row(*call)
        if call[0] in (WALL_COUNT, FIRST_WALL):
            return self.ask_height(*call)
        if call[0] in (IS_POSSIBLE_LENGTH, MIN_STONES):
            return self.ask_total(*call)
        if call[0] == ARE_COMPATIBLE:
            if call[1] not in self.rows() or call[2] not in self.rows():
                return [-22]
            return [int(expected_compatible(call[1], call[2]))]
        if call[0] == CHECK_WALL:
            if not set(call[1]) <= set(range(len(self.rows()))):
                return [-22]
            return [int(is_expected_wall(call[1], expected_fits(self.length, self.stones)))]
        if call[0] == ROW_COUNT:
            return [len(self.rows())]
        if call[0] == IMPOSSIBLE_LENGTHS:
            lengths = expected_impossible(self.stones)
            return [len(lengths)] + lengths[:20]
        if call[0] == LONELIEST_ROW:
            return expected_loneliest(self.length, self.stones) if self.rows() else [-33]
        assert call == (DESCRIBE,)
        return [self.length, len(self.stones)] + sorted(self.stones)

    def change(self, operation, number):
        if operation == REMOVE:
            if number not in self.stones:
                return [-2]
            self.stones = [k for k in self.stones if k != number]
            return [len(self.stones)]
        if not 1 <= number <= 9:
            return [-22]
        if operation == SET_LENGTH:
            before = self.length
            self.length = number
            return [before]
        if number in self.stones:
            return [-17]
        if len(self.stones) == 4:
            return [-28]
        self.stones = self.stones + [number]
        return [len(self.stones)]

    def ask_row(self, operation, i):
        if i not in range(len(self.rows())):
            return [-2]
        row = self.rows()[i]
        if operation == ROW:
            return [len(row)] + row
        if operation == JOINTS:
            return [len(row) - 1] + expected_joints(row)
        return [sum(expected_fits(self.length, self.stones)[i])]

    def ask_height(self, operation, height):
        if operation == WALL_COUNT:
            if not 0 <= height <= 8:
                return [-22]
            return [expected_wall_count(self.length, self.stones, height)]
        if not 1 <= height <= 8:
            return [-22]
        wall = expected_first_wall(self.length, self.stones, height)
        return [-33] if wall is None else [height] + wall

    def ask_total(self, operation, m):
        if not 0 <= m <= 60:
            return [-22]
        fewest = expected_fewest(self.stones)
        if operation == IS_POSSIBLE_LENGTH:
            return [int(m in fewest)]
        return [fewest.get(m, -33)]
