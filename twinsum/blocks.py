"""The blocks that a count of rows has."""


def digits(count):
    """Tell how many binary digits a count has, none for 0."""
    return count.bit_length()


def parted(count):
    """Tell the parts of a count, the greatest first, as tuples (height, number)."""
    parts = []
    start = 0
    for height in reversed(range(digits(count))):
        size = 1 << height
        if size <= count - start:
            # All parts ahead are multiples of this size, so nothing is lost here.
            parts.append((height, start // size))
            start += size
    return parts


def blocks_at(count, place):
    """Tell the blocks of a count that have a place, from below, as tuples (height, number)."""
    # Of height h a count has as many blocks as 2 ** h goes into it.
    heights = range(digits(count))
    return [(height, place >> height) for height in heights if place >> height < count >> height]
