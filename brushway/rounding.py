"""The one rounding to the nearest whole number."""


def nearest(top, bottom):
    """top / bottom, rounded to the nearest whole number, of two as near the lesser; top is 0 or more."""
    return (2 * top + bottom - 1) // (2 * bottom)
