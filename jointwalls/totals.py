"""Total lengths of stones: which can be reached, and with how few stones."""

GREATEST_TOTAL = 60


def fewest_stones(stone_lengths):
    """For each length from 0 to the greatest the fewest stones that add up to it; None if it isn't possible."""
    fewest = [0]
    for total in range(1, GREATEST_TOTAL + 1):
        # Taking any one stone away from the fewest leaves the fewest for the rest.
        counts = [
            fewest[total - stone] + 1
            for stone in stone_lengths
            if stone <= total and fewest[total - stone] is not None
        ]
        fewest.append(min(counts, default=None))
    return fewest
