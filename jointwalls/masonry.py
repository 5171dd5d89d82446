"""The calls on one object, done one behind another, and what each of them answers."""

from jointwalls.rows import compatible_rows, is_compatible, is_row, joints_of, rows_of
from jointwalls.totals import GREATEST_TOTAL, fewest_stones
from jointwalls.walls import count_walls, find_first_wall, find_loneliest, is_wall

NO_INSTANCE = -11
NOT_THERE = -2
ALREADY_THERE = -17
OUT_OF_RANGE = -22
TOO_MANY = -28
NONE_SUCH = -33

GREATEST_LENGTH = 9
MOST_STONE_LENGTHS = 4
GREATEST_HEIGHT = 8
MOST_LENGTHS_TOLD = 20

CREATE = 0
ADD_STONE_LENGTH = 1
REMOVE_STONE_LENGTH = 2
SET_LENGTH = 3
ROW_COUNT = 4
ROW = 5
JOINTS = 6
COMPATIBLE_COUNT = 7
ARE_COMPATIBLE = 8
WALL_COUNT = 9
FIRST_WALL = 10
IS_POSSIBLE_LENGTH = 11
IMPOSSIBLE_LENGTHS = 12
MIN_STONES = 13
LONELIEST_ROW = 14
CHECK_WALL = 15

# By operation number: how many whole numbers a call has, and how many lists behind them.
SHAPES = (
    (1, 0),  # create
    (1, 0),  # add_stone_length
    (1, 0),  # remove_stone_length
    (1, 0),  # set_length
    (0, 0),  # row_count
    (1, 0),  # row
    (1, 0),  # joints
    (1, 0),  # compatible_count
    (0, 2),  # are_compatible
    (1, 0),  # wall_count
    (1, 0),  # first_wall
    (1, 0),  # is_possible_length
    (0, 0),  # impossible_lengths
    (1, 0),  # min_stones
    (0, 0),  # loneliest_row
    (0, 1),  # check_wall
    (0, 0),  # describe
)


def answers(calls):
    """Does all calls, and gives back for each how many numbers it answers, then these numbers."""
    reader = Reader(calls)
    masonry = None
    given = []
    while reader.has_more():
        operation = reader.number()
        parts = reader.parts(operation)
        if operation == CREATE:
            if is_length(parts[0]):
                masonry = Masonry(parts[0])
                answer = [0]
            else:
                answer = [OUT_OF_RANGE]
        elif masonry is None:
            answer = [NO_INSTANCE]
        else:
            answer = answer_of(masonry, operation, parts)
        given.append(len(answer))
        given.extend(answer)
    return given


def answer_of(masonry, operation, parts):
    """Does one call other than create, and gives back the numbers that it answers."""
    if operation == ADD_STONE_LENGTH:
        return masonry.add_stone_length(parts[0])
    if operation == REMOVE_STONE_LENGTH:
        return masonry.remove_stone_length(parts[0])
    if operation == SET_LENGTH:
        return masonry.set_length(parts[0])
    if operation == ROW_COUNT:
        return masonry.row_count()
    if operation == ROW:
        return masonry.row(parts[0])
    if operation == JOINTS:
        return masonry.joints(parts[0])
    if operation == COMPATIBLE_COUNT:
        return masonry.compatible_count(parts[0])
    if operation == ARE_COMPATIBLE:
        return masonry.are_compatible(parts[0], parts[1])
    if operation == WALL_COUNT:
        return masonry.wall_count(parts[0])
    if operation == FIRST_WALL:
        return masonry.first_wall(parts[0])
    if operation == IS_POSSIBLE_LENGTH:
        return masonry.is_possible_length(parts[0])
    if operation == IMPOSSIBLE_LENGTHS:
        return masonry.impossible_lengths()
    if operation == MIN_STONES:
        return masonry.min_stones(parts[0])
    if operation == LONELIEST_ROW:
        return masonry.loneliest_row()
    if operation == CHECK_WALL:
        return masonry.check_wall(parts[0])
    # There is no operation behind describe.
    return masonry.describe()


def is_length(number):
    """Whether a row or a stone may have this length."""
    return 1 <= number <= GREATEST_LENGTH


def is_total(number):
    """Whether this length is one that stones may be asked to add up to."""
    return 0 <= number <= GREATEST_TOTAL


def yes_or_no(truth):
    """What is answered to a question."""
    if truth:
        return [1]
    return [0]


def counted(numbers):
    """The numbers, with their count ahead of them."""
    return [len(numbers)] + numbers


class Reader:
    """Goes through the list of calls from its beginning to its end."""

    def __init__(self, calls):
        self.calls = list(calls)
        self.place = 0

    def has_more(self):
        """Whether another call follows."""
        return self.place < len(self.calls)

    def number(self):
        """Takes the next number."""
        taken = self.calls[self.place]
        self.place = self.place + 1
        return taken

    def number_list(self):
        """Takes the next list, which has its size ahead of it."""
        size = self.number()
        taken = self.calls[self.place:self.place + size]
        self.place = self.place + size
        return taken

    def parts(self, operation):
        """Takes what is handed to one call: its whole numbers, then its lists."""
        shape = SHAPES[operation]
        taken = []
        for turn in range(shape[0]):
            taken.append(self.number())
        for turn in range(shape[1]):
            taken.append(self.number_list())
        return taken


class Masonry:
    """The instance: the length of every row, and the available stone lengths in ascending order.

    Each operation gives back the list of the numbers that it answers.
    """

    def __init__(self, length):
        self.length = length
        self.stone_lengths = []

    def rows(self):
        """All rows, each at the place of its row number."""
        return rows_of(self.length, self.stone_lengths)

    def add_stone_length(self, k):
        """Makes stones of length k available."""
        if not is_length(k):
            return [OUT_OF_RANGE]
        if k in self.stone_lengths:
            return [ALREADY_THERE]
        if len(self.stone_lengths) == MOST_STONE_LENGTHS:
            return [TOO_MANY]
        # The order of the stone lengths is what the row numbers rest on.
        self.stone_lengths = sorted(self.stone_lengths + [k])
        return [len(self.stone_lengths)]

    def remove_stone_length(self, k):
        """Takes the stones of length k away."""
        if k not in self.stone_lengths:
            return [NOT_THERE]
        self.stone_lengths.remove(k)
        return [len(self.stone_lengths)]

    def set_length(self, length):
        """Changes the length of every row, and answers the one before."""
        if not is_length(length):
            return [OUT_OF_RANGE]
        old_length = self.length
        self.length = length
        return [old_length]

    def row_count(self):
        """Answers the number of rows."""
        return [len(self.rows())]

    def row(self, i):
        """Answers the stones of row i."""
        rows = self.rows()
        if not 0 <= i < len(rows):
            return [NOT_THERE]
        return counted(rows[i])

    def joints(self, i):
        """Answers the joints of row i."""
        rows = self.rows()
        if not 0 <= i < len(rows):
            return [NOT_THERE]
        return counted(joints_of(rows[i]))

    def compatible_count(self, i):
        """Answers how many rows are compatible with row i."""
        rows = self.rows()
        if not 0 <= i < len(rows):
            return [NOT_THERE]
        return [len([row for row in rows if is_compatible(rows[i], row)])]

    def are_compatible(self, first, second):
        """Answers whether two rows, given by their stones, are compatible."""
        for stones in (first, second):
            if not is_row(stones, self.length, self.stone_lengths):
                return [OUT_OF_RANGE]
        return yes_or_no(is_compatible(first, second))

    def wall_count(self, height):
        """Answers the number of walls of a height."""
        if not 0 <= height <= GREATEST_HEIGHT:
            return [OUT_OF_RANGE]
        return [count_walls(height, compatible_rows(self.rows()))]

    def first_wall(self, height):
        """Answers the row numbers of the first wall of a height."""
        if not 1 <= height <= GREATEST_HEIGHT:
            return [OUT_OF_RANGE]
        wall = find_first_wall(height, compatible_rows(self.rows()))
        if len(wall) == 0:
            return [NONE_SUCH]
        return counted(wall)

    def is_possible_length(self, m):
        """Answers whether stones add up to m."""
        if not is_total(m):
            return [OUT_OF_RANGE]
        return yes_or_no(fewest_stones(self.stone_lengths)[m] is not None)

    def impossible_lengths(self):
        """Answers how many lengths no stones add up to, and the greatest of them, in descending order."""
        fewest = fewest_stones(self.stone_lengths)
        lengths = [m for m in range(GREATEST_TOTAL, -1, -1) if fewest[m] is None]
        return [len(lengths)] + lengths[:MOST_LENGTHS_TOLD]

    def min_stones(self, m):
        """Answers the smallest number of stones that add up to m."""
        if not is_total(m):
            return [OUT_OF_RANGE]
        fewest = fewest_stones(self.stone_lengths)[m]
        if fewest is None:
            return [NONE_SUCH]
        return [fewest]

    def loneliest_row(self):
        """Answers the row that is compatible with the fewest rows, and with how many it is."""
        compatible = compatible_rows(self.rows())
        if len(compatible) == 0:
            return [NONE_SUCH]
        i = find_loneliest(compatible)
        return [i, len(compatible[i])]

    def check_wall(self, numbers):
        """Answers whether rows, given by their numbers from bottom to top, are a wall."""
        rows = self.rows()
        for i in numbers:
            if not 0 <= i < len(rows):
                return [OUT_OF_RANGE]
        return yes_or_no(is_wall(numbers, compatible_rows(rows)))

    def describe(self):
        """Answers the length of the wall and the stone lengths."""
        return [self.length] + counted(self.stone_lengths)
