"""Promise 1: code and block."""

import itertools
import unittest

from lines import TOP, block, code, ended_blocks, give, last, num, rows, say, told


class CodeCall(unittest.TestCase):
    def test_answers_k(self):
        for k in range(7):
            self.assertEqual(last(code(k)), k)

    def test_more_than_6_words_are_refused(self):
        for k in (7, 8, 39, 40, TOP):
            self.assertEqual(last(code(k)), -1)

    def test_begins_anew_without_blocks(self):
        calls = ended_blocks(10) + [block(), code(3), block(), give(0), block()]
        self.assertEqual(told(*calls)[20:], [-1, 3, 0, 1, 1])

    def test_begins_anew_with_a_block_open(self):
        calls = [block(), say(0), code(2), say(0), give(0), block(), say(0)]
        self.assertEqual(told(*calls), [0, 1, 2, -3, -3, 0, 1])

    def test_refused_leaves_the_blocks(self):
        calls = [block(), give(0), block(), say(0), code(7), say(0), block(), give(0)]
        self.assertEqual(told(*calls), [0, 1, 1, 1, -1, 2, -3, 2])


class BlockCall(unittest.TestCase):
    def test_answers_its_number(self):
        calls = ended_blocks(10)
        self.assertEqual(told(*calls)[0::2], list(range(10)))

    def test_needs_no_code_call_ahead(self):
        self.assertEqual(told(block()), [0])

    def test_tenth_and_eleventh_block(self):
        self.assertEqual(last(*ended_blocks(9), block()), 9)
        self.assertEqual(last(*ended_blocks(10), block()), -1)

    def test_8_and_9_taken_over(self):
        self.assertEqual(last(block(*range(8))), 0)
        self.assertEqual(last(block(*range(9))), -1)
        self.assertEqual(last(block(*range(12))), -1)

    def test_values_39_and_40(self):
        self.assertEqual(last(block(39)), 0)
        for value in (40, TOP):
            self.assertEqual(last(block(value)), -2)

    def test_each_value_counts(self):
        for place in range(8):
            taken = [39] * 8
            taken[place] = 40
            self.assertEqual(last(block(*taken)), -2)

    def test_the_same_value_twice_is_no_refusal(self):
        self.assertEqual(last(block(5, 5)), 0)

    def test_while_one_is_open(self):
        self.assertEqual(told(block(), block()), [0, -3])
        self.assertEqual(told(block(), num(1, 2), block()), [0, 1, -3])

    def test_refused_makes_no_block(self):
        calls = [block(40), say(0), block(*range(9)), give(0), block(), give(0)]
        self.assertEqual(told(*calls), [-2, -3, -1, -3, 0, 1])

    def test_refused_leaves_the_open_block(self):
        calls = [block(), *rows(3), block(1), say(0), give(0)]
        self.assertEqual(told(*calls), [0, 1, 2, 3, -3, 4, 1])

    def test_of_several_refusals_the_one_told_first(self):
        for is_open, too_high, full, long in itertools.product((False, True), repeat=4):
            calls = ended_blocks(9)
            calls += [block(), give(0)] if full and not is_open else []
            calls += [block()] if is_open else []
            taken = [39] * (9 if long else 8)
            # The last one: a value counts behind the eighth, too.
            taken[-1] = 40 if too_high else 39
            wanted = -3 if is_open else -2 if too_high else -1 if full or long else 9
            with self.subTest(is_open=is_open, too_high=too_high, full=full, long=long):
                self.assertEqual(last(*calls, block(*taken)), wanted)


if __name__ == "__main__":
    unittest.main()
