"""Promise 2: num, two and say."""

import itertools
import unittest

from lines import TOP, block, ended_blocks, give, last, num, rows, say, told, two


class RowCalls(unittest.TestCase):
    def test_answer_how_many_rows_there_are(self):
        self.assertEqual(told(block(), num(0, 7), two(1, 0, 0, 0), say(1)), [0, 1, 2, 3])

    def test_each_block_counts_its_own(self):
        calls = [block(), *rows(2), give(0), block(), say(0)]
        self.assertEqual(told(*calls), [0, 1, 2, 1, 1, 1])

    def test_no_block_is_open(self):
        for row in (num(0, 0), two(0, 0, 0, 0), say(0)):
            self.assertEqual(last(row), -3)
            self.assertEqual(last(*ended_blocks(1), row), -3)

    def test_values_39_and_40(self):
        self.assertEqual(told(block(), num(39, 0), two(39, 0, 39, 39), say(39)), [0, 1, 2, 3])
        for value in (40, TOP):
            for row in (num(value, 0), two(value, 0, 0, 0), two(0, 0, value, 0), two(0, 0, 0, value), say(value)):
                self.assertEqual(last(block(), row), -2)

    def test_the_number_of_a_number_row_is_any(self):
        for number in (0, 39, 40, TOP):
            self.assertEqual(last(block(), num(0, number)), 1)

    def test_operations_10_and_11(self):
        for operation in range(11):
            self.assertEqual(last(block(), two(0, operation, 0, 0)), 1)
        for operation in (11, 39, TOP):
            self.assertEqual(last(block(), two(0, operation, 0, 0)), -4)

    def test_12_rows_and_one_more(self):
        for row in (num(0, 0), two(0, 0, 0, 0), say(0)):
            self.assertEqual(last(block(), *rows(11), row), 12)
            self.assertEqual(last(block(), *rows(12), row), -1)

    def test_refused_leaves_the_rows(self):
        calls = [block(), say(0), num(40, 0), two(0, 11, 0, 0), two(0, 0, 40, 0), say(40), say(0)]
        self.assertEqual(told(*calls), [0, 1, -2, -4, -2, -2, 2])
        self.assertEqual(told(block(), *rows(12), say(0), say(0), give(0), block(), say(0))[13:], [-1, -1, 1, 1, 1])

    def test_refused_opens_no_block(self):
        self.assertEqual(told(say(0), give(0), block()), [-3, -3, 0])

    def test_of_several_refusals_of_two_the_one_told_first(self):
        choices = itertools.product((False, True), (10, 11), ((39, 39, 39), (40, 0, 0), (0, 40, 0), (0, 0, 40)), (11, 12))
        for is_open, operation, values, count in choices:
            calls = [block(), *rows(count)] + ([] if is_open else [give(0)])
            wanted = -3 if not is_open else -4 if operation == 11 else -2 if 40 in values else -1 if count == 12 else 12
            x, a, b = values
            with self.subTest(is_open=is_open, operation=operation, values=values, count=count):
                self.assertEqual(last(*calls, two(x, operation, a, b)), wanted)

    def test_of_several_refusals_of_num_and_say_the_one_told_first(self):
        for is_open, value, count in itertools.product((False, True), (39, 40), (11, 12)):
            calls = [block(), *rows(count)] + ([] if is_open else [give(0)])
            wanted = -3 if not is_open else -2 if value == 40 else -1 if count == 12 else 12
            for row in (num(value, TOP), say(value)):
                with self.subTest(is_open=is_open, value=value, count=count, row=row):
                    self.assertEqual(last(*calls, row), wanted)


if __name__ == "__main__":
    unittest.main()
