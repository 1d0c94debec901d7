"""Squares of 8 by 8 bits, each kept as one number: bit 8 r + c stands in row r, column c."""

SIDE = 8


def bit_at(square, row, column):
    return (square >> (SIDE * row + column)) & 1


def turned_square(square):
    """The square whose rows are this one's columns."""
    turned = 0
    for row in range(SIDE):
        for column in range(SIDE):
            turned += bit_at(square, column, row) << (SIDE * row + column)
    return turned
