"""Walls: rows laid on each other, given by their row numbers from bottom to top.

What is called compatible here is a list: for each row the numbers of the rows that may lie on it, ascending.
"""


def count_walls(height, compatible):
    """The number of walls of a height."""
    if height == 0:
        return 1
    # By row number: how many walls have this row on top.
    counts = [1] * len(compatible)
    for step in range(height - 1):
        counts = one_row_higher(counts, compatible)
    return sum(counts)


def one_row_higher(counts, compatible):
    """From the number of walls with each row on top, that of the walls that are one row higher."""
    higher = []
    for below in compatible:
        higher.append(sum([counts[i] for i in below]))
    return higher


def find_first_wall(height, compatible):
    """The first wall of a height from 1 on, walls being compared by their row numbers; [] if there is none."""
    for lowest in range(len(compatible)):
        if height == 1 or compatible[lowest]:
            return wall_upon(lowest, height, compatible)
    return []


def wall_upon(lowest, height, compatible):
    """The first wall of a height upon a lowest row that can bear one."""
    wall = [lowest]
    while len(wall) < height:
        # The smallest number will do: the row beneath may lie upon it in turn, so the wall can always go on.
        wall.append(compatible[wall[-1]][0])
    return wall


def find_loneliest(compatible):
    """The number of the row that is compatible with the fewest, the smallest of several; there is a row."""
    counts = [len(numbers) for numbers in compatible]
    return counts.index(min(counts))


def is_wall(numbers, compatible):
    """Whether each of these rows may lie on the one beneath it."""
    for place in range(1, len(numbers)):
        if numbers[place] not in compatible[numbers[place - 1]]:
            return False
    return True
