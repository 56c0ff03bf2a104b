"""Bounds that several calls share."""

MOST_BYTES = 4096
# 2 to the 40th: no tick, and no number among the bytes of tellings, comes to it.
NUMBERS_END = 1099511627776


def width_fits(width):
    return 16 <= width <= 96


def rows_fit(rows):
    return 1 <= rows <= 8
