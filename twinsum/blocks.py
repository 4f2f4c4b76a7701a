"""The blocks into which a count of rows is parted."""


def digits(count):
    """Tell how many binary digits a count has, none for 0."""
    return count.bit_length()


def parted(count):
    """Tell the parts of a count, the greatest first, as tuples (height, number)."""
    parts = []
    start = 0
    for height in reversed(range(digits(count))):
        size = 1 << height
        if size <= count - start:
            # All parts ahead are multiples of this size, so nothing is lost here.
            parts.append((height, start // size))
            start += size
    return parts
