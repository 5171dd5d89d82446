"""Rows of stones: which there are, where their joints lie, which may lie on each other.

A row is a list with the lengths of its stones, from left to right.
"""


def rows_of(length, stone_lengths):
    """All rows of a length, in lexicographic order; the stone lengths are given in ascending order."""
    rows_by_total = [[[]]]
    for total in range(1, length + 1):
        rows_by_total.append(rows_of_total(total, stone_lengths, rows_by_total))
    return rows_by_total[length]


def rows_of_total(total, stone_lengths, rows_by_total):
    """The rows of one length, laid as a first stone and a row of each shorter length behind it."""
    rows = []
    # The first stones ascend and the rests are in order already, so the rows come out in order.
    for stone in stone_lengths:
        if stone <= total:
            for rest in rows_by_total[total - stone]:
                rows.append([stone] + rest)
    return rows


def is_row(stones, length, stone_lengths):
    """Whether the stones are all available and add up to the length."""
    for stone in stones:
        if stone not in stone_lengths:
            return False
    return sum(stones) == length


def joints_of(row):
    """The joints of a row, in ascending order."""
    joints = []
    end = 0
    # The right end of the last stone is the end of the row, not a joint.
    for stone in row[:-1]:
        end = end + stone
        joints.append(end)
    return joints


def joint_bits(row):
    """The joints of a row as the bits of one number: two of these show at once what rows have in common."""
    bits = 0
    for joint in joints_of(row):
        bits = bits | (1 << joint)
    return bits


def is_compatible(first, second):
    """Whether no joint of one row is a joint of the other."""
    return (joint_bits(first) & joint_bits(second)) == 0


def compatible_rows(rows):
    """For each row, by its number, the numbers of the rows compatible with it, in ascending order."""
    # Each row is turned into bits once, as there are far more pairs of rows than rows.
    bits = [joint_bits(row) for row in rows]
    compatible = []
    for own in bits:
        compatible.append([i for i in range(len(bits)) if (own & bits[i]) == 0])
    return compatible
