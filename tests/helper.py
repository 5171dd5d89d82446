"""What the tests share: calls written as tuples, and the document's terms told a second time."""

from itertools import accumulate, combinations, product

from jointwalls.masonry import answers

CREATE, ADD, REMOVE, SET_LENGTH, ROW_COUNT, ROW, JOINTS, COMPATIBLE_COUNT, ARE_COMPATIBLE = range(9)

LEAST = -2147483648
GREATEST = 2147483647

# Each call 0 to 8, with good arguments where it has any.
GOOD_CALLS = (
    (CREATE, 5), (ADD, 4), (REMOVE, 2), (SET_LENGTH, 7), (ROW_COUNT,), (ROW, 0), (JOINTS, 0),
    (COMPATIBLE_COUNT, 0), (ARE_COMPATIBLE, [2, 3], [3, 2]),
)


def encode(calls):
    """The one list of numbers that the calls are handed in as."""
    numbers = []
    for call in calls:
        numbers.append(call[0])
        for part in call[1:]:
            if isinstance(part, list):
                numbers.append(len(part))
                numbers.extend(part)
            else:
                numbers.append(part)
    return numbers


def decode(given):
    """For each call the list of what it answers."""
    lists = []
    place = 0
    while place < len(given):
        size = given[place]
        assert size >= 1 and place + 1 + size <= len(given), given
        lists.append(given[place + 1:place + 1 + size])
        place += 1 + size
    return lists


def ask(*calls):
    """What one request of these calls answers, call by call."""
    assert 1 <= len(calls) <= 60
    lists = decode(answers(encode(calls)))
    assert len(lists) == len(calls), lists
    return lists


def last(*calls):
    """What the last of the calls answers."""
    return ask(*calls)[-1]


def ask_all(start, calls):
    """What the calls answer behind the calls of start, over as many requests as it takes."""
    lists = []
    step = 60 - len(start)
    for place in range(0, len(calls), step):
        lists += ask(*start, *calls[place:place + step])[len(start):]
    return lists


def build(length, stones):
    """The calls that make an instance."""
    return [(CREATE, length)] + [(ADD, k) for k in stones]


def instance_after(*calls):
    """The instance that the calls leave behind: its length and its stone lengths."""
    probe = [(SET_LENGTH, 9)] + [(REMOVE, k) for k in range(1, 10)]
    told = ask(*calls, *probe)[len(calls):]
    return told[0][0], [k for k in range(1, 10) if told[k] != [-2]]


def expected_rows(length, stones):
    """The rows by the document's words, out of all sequences of stones that are short enough."""
    rows = []
    for count in range(1, length + 1):
        rows += [list(row) for row in product(stones, repeat=count) if sum(row) == length]
    return sorted(rows)


def expected_joints(row):
    return list(accumulate(row))[:-1]


def expected_compatible(first, second):
    return set(expected_joints(first)).isdisjoint(expected_joints(second))


def stone_choices():
    """All choices of at most 4 stone lengths."""
    return [stones for size in range(5) for stones in combinations(range(1, 10), size)]
