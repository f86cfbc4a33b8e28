"""Promise 4: -6, each of its reasons by itself, for every call that asks."""

import unittest

from lines import QUESTIONS, answered, asked, block, code, fork, give, jump, most, num, say

BEGIN = [block(), num(20, 7)]


class NotWhole(unittest.TestCase):
    def refused(self, *calls):
        for question in QUESTIONS:
            self.assertEqual(asked(*calls, question), [-6], question)

    def fine(self, *calls):
        for question in QUESTIONS:
            self.assertGreaterEqual(asked(*calls, question)[0], 0, question)

    def test_there_is_no_block(self):
        for question in QUESTIONS:
            self.assertEqual(answered(question), [[-6]])
        self.refused(code(0))
        self.refused(code(6))
        self.refused(*BEGIN, give(20), code(0))

    def test_a_block_is_open(self):
        self.refused(block())
        self.refused(*BEGIN)
        self.refused(*BEGIN, jump(1), block())
        self.refused(*BEGIN, jump(1), block(), give(20), block(), say(20))
        self.fine(*BEGIN, give(20))
        self.fine(*BEGIN, jump(1), block(), give(20))

    def test_an_end_leads_to_a_block_that_is_not_there(self):
        two_blocks = [*BEGIN, jump(1), block()]
        self.refused(*BEGIN, jump(1))
        self.refused(*BEGIN, jump(9))
        self.refused(*BEGIN, fork(20, 1, 1, 0))
        for missing in (2, 3, 9):
            self.refused(*two_blocks, jump(missing))
            self.refused(*two_blocks, fork(20, missing, 1, 0))
            self.refused(*two_blocks, fork(20, 1, missing, 0))
            self.refused(*BEGIN, jump(missing), block(), give(20))
            self.refused(*BEGIN, fork(20, missing, 1, 0), block(), give(20))
            self.refused(*BEGIN, fork(20, 1, missing, 0), block(), give(20))
        self.fine(*two_blocks, jump(1))
        self.fine(*two_blocks, fork(20, 1, 1, 0))

    def test_the_last_of_ten_blocks(self):
        blocks = [*BEGIN, jump(1)]
        for number in range(2, 10):
            blocks += [block(), jump(number)]
        self.refused(*blocks)
        self.fine(*blocks, block(), give(20))

    def test_a_jump_hands_over_another_number(self):
        for taken in range(9):
            for handed in range(9):
                calls = [*BEGIN, jump(1, *[20] * handed), block(*range(taken)), give(20)]
                if taken == handed:
                    self.fine(*calls)
                else:
                    self.assertEqual(asked(*calls, most()), [-6])
        self.refused(*BEGIN, jump(1, 20), block(), give(20))
        self.refused(*BEGIN, jump(1), block(1), give(20))

    def test_a_jump_from_behind_hands_over_another_number(self):
        for handed in range(4):
            calls = [*BEGIN, jump(1, 20, 20), block(1, 2), jump(1, *[20] * handed)]
            if handed == 2:
                self.fine(*calls)
            else:
                self.refused(*calls)

    def test_a_fork_hands_over_another_number_either_way(self):
        for n, handed in ((2, 3), (1, 3), (3, 3), (1, 2), (2, 2), (3, 4), (2, 4), (0, 0), (0, 3), (0, 1), (2, 5)):
            calls = [*BEGIN, fork(20, 1, 2, n, *[20] * handed), block(1, 2), give(20), block(3), give(20)]
            if (n, handed) == (2, 3):
                self.fine(*calls)
            else:
                self.refused(*calls)

    def test_a_fork_to_one_block_hands_over_another_number_one_way(self):
        for n, handed in ((1, 2), (0, 1), (1, 1), (2, 2), (0, 2), (2, 3), (1, 3)):
            calls = [*BEGIN, fork(20, 1, 1, n, *[20] * handed), block(1), give(20)]
            if (n, handed) == (1, 2):
                self.fine(*calls)
            else:
                self.refused(*calls)

    def test_a_fork_hands_more_than_8_one_way(self):
        self.refused(*BEGIN, fork(20, 1, 2, 9, *[20] * 9), block(*range(8)), give(20), block(), give(20))
        self.refused(*BEGIN, fork(20, 2, 1, 0, *[20] * 9), block(*range(8)), give(20), block(), give(20))
        self.fine(*BEGIN, fork(20, 1, 2, 8, *[20] * 16), block(*range(8)), give(20), block(*range(8, 16)), give(20))

    def test_block_0_takes_something_over(self):
        for taken in ((0,), (39,), range(8)):
            self.refused(block(*taken), num(20, 7), give(20))
        self.fine(*BEGIN, give(20))

    def test_refused_changes_nothing(self):
        calls = [*QUESTIONS, *BEGIN, *QUESTIONS, jump(1), *QUESTIONS, block(), give(20), most()]
        self.assertEqual(
            answered(*calls),
            [[-6]] * 8 + [[0], [1]] + [[-6]] * 8 + [[1]] + [[-6]] * 8 + [[1], [2], [1, 0, 1]],
        )


if __name__ == "__main__":
    unittest.main()
