"""The way from one cell to another."""

from brushway.rounding import nearest


def place_behind(start, end, i, n):
    """The column (or row) behind i of the n steps from start to end."""
    # How far it has come is rounded, not where it is: so a tie falls to the start's side in both directions.
    far = nearest(i * abs(end - start), n)
    return start + far if end > start else start - far


def way(a, b, c, d):
    """The cells behind each step from (a, b) to (c, d), the last one included, the first one not."""
    n = max(abs(c - a), abs(d - b))
    return [(place_behind(a, c, i, n), place_behind(b, d, i, n)) for i in range(1, n + 1)]
