"""turn: the square of 8 by 8 bits with its rows as columns, and A4: turned twice it's as it was."""

import unittest

from draws import Draw
from flipboards.boards import turn

ALL = 2 ** 64 - 1


def square_of(rows):
    """The number of a square that is drawn row by row, bit 0 of each row at its left."""
    return sum([2 ** (8 * r + c) for r, row in enumerate(rows) for c, sign in enumerate(row) if sign == "x"])


def rows_of(number):
    return ["".join(["x" if number // 2 ** (8 * r + c) % 2 else "." for c in range(8)]) for r in range(8)]


def turned_by_rows(number):
    return square_of(list(zip(*rows_of(number))))


def many_numbers():
    draw = Draw(1)
    numbers = [0, 1, 2, 255, 256, 2 ** 32 - 1, 2 ** 32, 2 ** 63 - 1, 2 ** 63, ALL - 1, ALL]
    numbers += [0x0123456789abcdef, 0xfedcba9876543210, 0xaaaaaaaaaaaaaaaa, 0x5555555555555555, 0xf0f0f0f00f0f0f0f]
    numbers += [2 ** k for k in range(64)] + [2 ** k - 1 for k in range(64)] + [ALL - 2 ** k for k in range(64)]
    numbers += [draw.below(2 ** 64) for k in range(300)]
    # Few bits and many bits, since a drawn number has about half of them.
    numbers += [draw.below(2 ** 64) & draw.below(2 ** 64) & draw.below(2 ** 64) for k in range(100)]
    numbers += [draw.below(2 ** 64) | draw.below(2 ** 64) | draw.below(2 ** 64) for k in range(100)]
    return numbers


class Turned(unittest.TestCase):
    def test_no_bit_and_all_bits(self):
        self.assertEqual(turn(0), [0, 0])
        self.assertEqual(turn(ALL), [0, ALL])

    def test_first_and_last_bit(self):
        self.assertEqual(turn(1), [0, 1])
        self.assertEqual(turn(2 ** 63), [0, 2 ** 63])

    def test_each_single_bit(self):
        for r in range(8):
            for c in range(8):
                self.assertEqual(turn(2 ** (8 * c + r)), [0, 2 ** (8 * r + c)], (r, c))

    def test_each_bit_that_is_missing(self):
        for r in range(8):
            for c in range(8):
                self.assertEqual(turn(ALL - 2 ** (8 * c + r)), [0, ALL - 2 ** (8 * r + c)], (r, c))

    def test_some_written_out(self):
        self.assertEqual(turn(2), [0, 256])
        self.assertEqual(turn(256), [0, 2])
        self.assertEqual(turn(128), [0, 2 ** 56])
        self.assertEqual(turn(2 ** 56), [0, 128])
        self.assertEqual(turn(6), [0, 65792])
        self.assertEqual(turn(0x0123456789abcdef), [0, 0x0f3355000f3355ff])

    def test_rows_and_columns(self):
        first_row = 255
        first_column = sum([2 ** (8 * r) for r in range(8)])
        for k in range(8):
            self.assertEqual(turn(first_row * 2 ** (8 * k)), [0, first_column * 2 ** k])
            self.assertEqual(turn(first_column * 2 ** k), [0, first_row * 2 ** (8 * k)])

    def test_diagonals(self):
        diagonal = [2 ** (9 * k) for k in range(8)]
        for bit in diagonal:
            self.assertEqual(turn(bit), [0, bit])
        self.assertEqual(turn(sum(diagonal)), [0, sum(diagonal)])
        other = [2 ** (7 * k) for k in range(1, 9)]
        for bit, goal in zip(other, reversed(other)):
            self.assertEqual(turn(bit), [0, goal])
        self.assertEqual(turn(sum(other)), [0, sum(other)])

    def test_a_drawn_square(self):
        square = ["xx..x...", "...x...x", "........", "x.......", "xxxxxxxx", ".....x..", "......xx", "x......."]
        turned = ["x..xx..x", "x...x...", "....x...", ".x..x...", "x...x...", "....xx..", "....x.x.", ".x..x.x."]
        self.assertEqual(turn(square_of(square)), [0, square_of(turned)])
        self.assertEqual(turn(square_of(turned)), [0, square_of(square)])

    def test_many_numbers_row_by_row(self):
        for number in many_numbers():
            self.assertEqual(turn(number), [0, turned_by_rows(number)], number)


class Twice(unittest.TestCase):
    def test_as_it_was(self):
        for number in many_numbers():
            self.assertEqual(turn(turn(number)[1]), [0, number])


class AsTheInterfaceTells(unittest.TestCase):
    def test_argument_by_name(self):
        self.assertEqual(turn(a=2), [0, 256])

    def test_same_call_same_answer(self):
        numbers = many_numbers()
        first = [turn(number) for number in numbers]
        self.assertEqual([turn(number) for number in reversed(numbers)], first[::-1])

    def test_answer_is_the_callers_own(self):
        answer = turn(2)
        answer.append(9)
        self.assertEqual(turn(2), [0, 256])

    def test_whole_numbers_alone(self):
        for number in many_numbers():
            answer = turn(number)
            self.assertIs(type(answer), list)
            self.assertEqual([type(told) for told in answer], [int, int])


if __name__ == "__main__":
    unittest.main()
