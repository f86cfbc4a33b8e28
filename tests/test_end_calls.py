"""Promise 3: jump, fork and give."""

import itertools
import unittest

from lines import TOP, block, code, ended_blocks, fork, give, jump, last, rows, say, told

ENDS = (jump(1), fork(0, 1, 1, 0), give(0))


class EndCalls(unittest.TestCase):
    def test_answer_how_many_blocks_there_are(self):
        calls = [block(), jump(1), block(), fork(0, 1, 2, 0), block(), give(0)]
        self.assertEqual(told(*calls), [0, 1, 1, 2, 2, 3])

    def test_the_tenth_block_ends_too(self):
        for end in ENDS:
            self.assertEqual(last(*ended_blocks(9), block(), end), 10)

    def test_no_block_is_open(self):
        for end in ENDS:
            self.assertEqual(last(end), -3)
            self.assertEqual(last(*ended_blocks(2), end), -3)
            self.assertEqual(last(block(), code(0), end), -3)

    def test_close_the_block(self):
        for end in ENDS:
            self.assertEqual(told(block(), end, say(0), end, block()), [0, 1, -3, -3, 1])

    def test_blocks_0_1_9_and_10(self):
        for target, wanted in ((0, -2), (1, 1), (9, 1), (10, -2), (TOP, -2)):
            for end in (jump(target), fork(0, target, 1, 0), fork(0, 1, target, 0)):
                self.assertEqual(last(block(), end), wanted)

    def test_values_39_and_40(self):
        for value, wanted in ((39, 1), (40, -2), (TOP, -2)):
            ends = (jump(1, value), jump(1, 0, value), fork(value, 1, 1, 0), fork(0, 1, 1, 1, value, 0),
                    fork(0, 1, 1, 1, 0, value), give(value))
            for end in ends:
                self.assertEqual(last(block(), end), wanted)

    def test_jump_hands_over_8_and_9(self):
        self.assertEqual(last(block(), jump(1, *range(8))), 1)
        self.assertEqual(last(block(), jump(1, *range(9))), -1)
        self.assertEqual(last(block(), jump(1, *range(12))), -1)

    def test_fork_has_16_and_17_behind_it(self):
        for n in (0, 8, 9, 16):
            self.assertEqual(last(block(), fork(0, 1, 1, n, *range(16))), 1)
            self.assertEqual(last(block(), fork(0, 1, 1, n, *range(17))), -1)
            self.assertEqual(last(block(), fork(0, 1, 1, n, *range(20))), -1)

    def test_fork_hands_over_just_as_many_as_stand_behind_it_and_one_more(self):
        for count in (0, 1, 8, 16):
            self.assertEqual(last(block(), fork(0, 1, 1, count, *range(count))), 1)
            self.assertEqual(last(block(), fork(0, 1, 1, count + 1, *range(count))), -1)
            self.assertEqual(last(block(), fork(0, 1, 1, TOP, *range(count))), -1)

    def test_what_is_handed_over_is_not_compared_with_what_is_taken_over(self):
        self.assertEqual(last(block(), jump(1, 1, 2), block(), jump(1, 1)), 2)

    def test_refused_leaves_the_block_open(self):
        ends = (jump(0), jump(1, 40), jump(1, *range(9)), fork(40, 1, 1, 0), fork(0, 1, 1, 1), give(40))
        for end in ends:
            answers = told(block(), say(0), end, block(), say(0), give(0))
            self.assertEqual(answers[:2] + answers[3:], [0, 1, -3, 2, 1])
            self.assertLess(answers[2], 0)

    def test_a_full_block_can_end(self):
        for end in ENDS:
            self.assertEqual(last(block(), *rows(12), end), 1)

    def test_of_several_refusals_of_jump_the_one_told_first(self):
        for is_open, count, value, target in itertools.product((False, True), (8, 9), (39, 40), (0, 1, 9, 10)):
            calls = [block()] if is_open else []
            end = jump(target, *([0] * (count - 1)), value)
            wanted = -3 if not is_open else -1 if count == 9 else -2 if value == 40 or target in (0, 10) else 1
            with self.subTest(is_open=is_open, end=end):
                self.assertEqual(last(*calls, end), wanted)

    def test_of_several_refusals_of_fork_the_one_told_first(self):
        counts = ((2, 2), (3, 2), (16, 16), (17, 16), (17, 17), (0, 17))
        choices = itertools.product((False, True), counts, (39, 40), (39, 40), (1, 10), (0, 9))
        for is_open, (n, count), v, value, t, u in choices:
            calls = [block()] if is_open else []
            end = fork(v, t, u, n, *([0] * (count - 1)), value)
            bad_name = 40 in (v, value) or t == 10 or u == 0
            wanted = -3 if not is_open else -1 if count < n or count > 16 else -2 if bad_name else 1
            with self.subTest(is_open=is_open, end=end):
                self.assertEqual(last(*calls, end), wanted)

    def test_of_several_refusals_of_give_the_one_told_first(self):
        self.assertEqual(last(give(40)), -3)
        self.assertEqual(last(*ended_blocks(10), give(TOP)), -3)


if __name__ == "__main__":
    unittest.main()
