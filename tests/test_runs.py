"""Promise 4: run, and runregisters, which answers the same."""

import unittest

from lines import TOP, asked, block, code, fork, give, jump, num, run, runregisters, say, two

HALF = 2 ** 31

# Operation, first word, second word, and what it makes of them.
MADE = (
    (0, 2, 3, 5), (0, TOP, 0, TOP), (0, TOP, 1, 0), (0, TOP, TOP, TOP - 1), (0, HALF, HALF, 0), (0, 0, 0, 0),
    (1, 5, 3, 2), (1, 3, 5, TOP - 1), (1, 0, 1, TOP), (1, 0, TOP, 1), (1, TOP, TOP, 0), (1, 7, 0, 7),
    (2, 6, 7, 42), (2, 65536, 65536, 0), (2, TOP, TOP, 1), (2, TOP, 2, TOP - 1), (2, 65535, 65537, TOP), (2, 0, TOP, 0),
    (3, 12, 10, 8), (3, TOP, 77, 77), (3, HALF, HALF - 1, 0), (3, TOP, TOP, TOP),
    (4, 12, 10, 14), (4, HALF, HALF - 1, TOP), (4, 0, 0, 0), (4, TOP, 1, TOP),
    (5, 12, 10, 6), (5, TOP, TOP, 0), (5, TOP, 1, TOP - 1), (5, 0, TOP, TOP),
    (6, 3, 0, 3), (6, 3, 1, 6), (6, 1, 31, HALF), (6, 3, 31, HALF), (6, 3, 32, 3), (6, 3, 33, 6), (6, TOP, 1, TOP - 1),
    (6, 2, 31, 0), (6, 5, TOP, HALF), (6, 5, 64, 5), (6, 0, 5, 0),
    (7, 7, 0, 7), (7, 7, 1, 3), (7, TOP, 31, 1), (7, HALF - 1, 31, 0), (7, 7, 32, 7), (7, 7, 33, 3), (7, TOP, TOP, 1),
    (7, 7, 64, 7), (7, 7, 3, 0),
    (8, 2, 3, 1), (8, 3, 3, 0), (8, 4, 3, 0), (8, 0, TOP, 1), (8, TOP, 0, 0), (8, HALF, HALF - 1, 0), (8, 0, 0, 0),
    (9, 3, 3, 1), (9, 2, 3, 0), (9, 3, 2, 0), (9, TOP, TOP, 1), (9, 0, TOP, 0), (9, 0, 0, 1),
    (10, 7, 2, 3), (10, 6, 2, 3), (10, 1, 2, 0), (10, 0, 5, 0), (10, TOP, 1, TOP), (10, TOP, TOP, 1), (10, TOP, 2, HALF - 1),
    (10, TOP - 1, TOP, 0),
)


class Runs(unittest.TestCase):
    def check(self, calls, n, words, wanted):
        """The run and the run in registers tell what is wanted."""
        self.assertEqual(asked(*calls, run(n, *words)), wanted, (calls, n, words))
        self.assertEqual(asked(*calls, runregisters(n, *words)), wanted, (calls, n, words))


class Operations(Runs):
    def test_each_operation(self):
        self.assertEqual({made[0] for made in MADE}, set(range(11)))
        for operation, first, second, word in MADE:
            calls = [code(2), block(), two(2, operation, 0, 1), give(2)]
            self.check(calls, 1, (first, second), [0, 0, word])

    def test_on_one_value_twice(self):
        for operation, word in enumerate((18, 0, 81, 9, 9, 0, 4608, 0, 0, 1, 1)):
            self.check([code(1), block(), two(2, operation, 0, 0), give(2)], 1, (9,), [0, 0, word])

    def test_number(self):
        for number in (0, 1, 39, 40, TOP):
            self.check([block(), num(39, number), say(39), give(39)], 1, (), [1, number, 0, number])

    def test_division_by_0_fails(self):
        calls = [code(2), block(), say(0), say(1), two(2, 10, 0, 1), say(2), give(2)]
        self.check(calls, 1, (7, 0), [2, 7, 0, 1])
        self.check(calls, 1, (0, 0), [2, 0, 0, 1])
        self.check(calls, 1, (7, 2), [3, 7, 2, 3, 0, 3])

    def test_division_by_0_fails_though_its_word_is_not_used(self):
        calls = [code(2), block(), two(2, 10, 0, 1), give(0)]
        self.check(calls, 1, (7, 0), [0, 1])
        self.check(calls, 1, (7, 1), [0, 0, 7])

    def test_no_other_operation_fails(self):
        for operation in range(10):
            calls = [code(1), block(), two(2, operation, 0, 0), give(0)]
            self.check(calls, 1, (0,), [0, 0, 0])

    def test_a_run_fails_in_a_later_block(self):
        calls = [code(1), block(), say(0), jump(1), block(), say(0), two(5, 10, 0, 0), give(5)]
        self.check(calls, 2, (0,), [2, 0, 0, 1])
        self.check(calls, 1, (0,), [1, 0, 2])
        self.check(calls, 2, (6,), [2, 6, 6, 0, 1])


class Blocks(Runs):
    CHAIN = [code(1), block(), say(0), jump(1), block(), say(0), jump(2), block(), say(0), give(0)]

    def test_no_blocks(self):
        self.check(self.CHAIN, 0, (4,), [0, 2])
        self.check([code(1), block(), give(0)], 0, (4,), [0, 2])
        self.check([code(1), block(), two(3, 10, 0, 0), give(0)], 0, (0,), [0, 2])

    def test_as_many_as_are_needed_and_one_fewer_and_one_more(self):
        self.check(self.CHAIN, 1, (4,), [1, 4, 2])
        self.check(self.CHAIN, 2, (4,), [2, 4, 4, 2])
        self.check(self.CHAIN, 3, (4,), [3, 4, 4, 4, 0, 4])
        self.check(self.CHAIN, 4, (4,), [3, 4, 4, 4, 0, 4])
        self.check(self.CHAIN, 500, (4,), [3, 4, 4, 4, 0, 4])

    def test_rows_in_order(self):
        calls = [code(1), block(), say(0), num(5, 8), say(5), two(6, 0, 0, 5), say(6), say(0), give(5)]
        self.check(calls, 1, (3,), [4, 3, 8, 11, 3, 0, 8])

    def test_words_in_order(self):
        calls = [code(6), block(), *[say(value) for value in (5, 0, 4, 1, 3, 2)], give(3)]
        self.check(calls, 1, (10, 11, 12, 13, 14, TOP), [6, TOP, 10, 14, 11, 13, 12, 0, 13])

    def test_blocks_in_the_order_of_the_ends(self):
        calls = [
            code(1), block(), jump(3), block(), num(11, 1), say(11), give(0), block(), num(12, 2), say(12), jump(1),
            block(), num(13, 3), say(13), jump(2),
        ]
        self.check(calls, 4, (9,), [3, 3, 2, 1, 0, 9])

    def test_a_loop_till_n_is_used_up(self):
        calls = [code(1), block(), *[say(0)] * 12, jump(1), block(), *[say(0)] * 12, jump(1)]
        for n in (0, 1, 2, 3, 499, 500):
            self.check(calls, n, (TOP,), [12 * n] + [TOP] * (12 * n) + [2])

    def test_a_loop_that_ends(self):
        # Block 1 counts down from the word handed over, and block 2 gives what is left.
        calls = [
            code(1), block(), num(10, 1), jump(1, 0), block(11), say(11), two(12, 1, 11, 10), fork(12, 1, 2, 1, 12),
            block(), give(12),
        ]
        self.check(calls, 5, (3,), [3, 3, 2, 1, 0, 0])
        self.check(calls, 4, (3,), [3, 3, 2, 1, 2])
        self.check(calls, 500, (498,), [498, *range(498, 0, -1), 0, 0])
        self.check(calls, 500, (499,), [499, *range(499, 0, -1), 2])


class Forks(Runs):
    def test_both_ways(self):
        calls = [code(1), block(), fork(0, 1, 2, 0), block(), num(5, 100), give(5), block(), num(6, 200), give(6)]
        for word in (1, 2, HALF, TOP):
            self.check(calls, 2, (word,), [0, 0, 100])
        self.check(calls, 2, (0,), [0, 0, 200])

    def test_both_ways_to_one_block_with_other_values(self):
        calls = [code(3), block(), fork(0, 1, 1, 1, 1, 2), block(5), give(5)]
        self.check(calls, 2, (9, 10, 20), [0, 0, 10])
        self.check(calls, 2, (0, 10, 20), [0, 0, 20])

    def test_both_ways_to_one_block_with_several_values(self):
        calls = [code(4), block(), fork(0, 1, 1, 2, 1, 2, 3, 1), block(5, 6), say(5), say(6), give(0)]
        self.check(calls, 2, (9, 10, 20, 30), [2, 10, 20, 0, 9])
        self.check(calls, 2, (0, 10, 20, 30), [2, 30, 10, 0, 0])

    def test_each_way_hands_over_its_own(self):
        calls = [
            code(3), block(), fork(0, 1, 2, 2, 1, 2, 2), block(5, 6), say(5), say(6), give(0), block(7), say(7), give(1),
        ]
        self.check(calls, 2, (9, 10, 20), [2, 10, 20, 0, 9])
        self.check(calls, 2, (0, 10, 20), [1, 20, 0, 10])

    def test_the_word_is_looked_at_ahead_of_the_handing_over(self):
        # Block 1 hands its two to itself in turn; the way is gone by the word that 5 has before that.
        calls = [code(2), block(), jump(1, 0, 1), block(5, 6), say(5), fork(5, 1, 2, 2, 6, 5), block(), give(6)]
        self.check(calls, 3, (3, 0), [2, 3, 0, 2])
        self.check(calls, 4, (3, 0), [2, 3, 0, 0, 3])
        self.check(calls, 3, (0, 3), [1, 0, 0, 3])


class HandedOver(Runs):
    def test_two_change_places_at_once(self):
        calls = [code(2), block(), jump(1, 0, 1), block(3, 4), say(3), say(4), jump(1, 4, 3)]
        self.check(calls, 4, (10, 20), [6, 10, 20, 20, 10, 10, 20, 2])

    def test_three_go_round_at_once(self):
        calls = [code(3), block(), jump(1, 0, 1, 2), block(3, 4, 5), say(3), say(4), say(5), jump(1, 5, 3, 4)]
        self.check(calls, 5, (1, 2, 3), [12, 1, 2, 3, 3, 1, 2, 2, 3, 1, 1, 2, 3, 2])

    def test_two_change_places_by_a_fork(self):
        for n, t, u, handed in ((2, 1, 2, (4, 3)), (0, 2, 1, (4, 3))):
            v = 0 if n == 2 else 6
            calls = [
                code(2), block(), num(6, 0), jump(1, 0, 1), block(3, 4), say(3), say(4), fork(v, t, u, n, *handed), block(),
                give(6),
            ]
            self.check(calls, 3, (10, 20), [4, 10, 20, 20, 10, 2])

    def test_one_is_handed_over_to_several(self):
        calls = [code(2), block(), jump(1, 1, 1, 0, 1), block(3, 4, 5, 6), *[say(x) for x in (3, 4, 5, 6)], give(0)]
        self.check(calls, 2, (10, 20), [4, 20, 20, 10, 20, 0, 10])

    def test_no_other_changes(self):
        calls = [
            code(2), block(), num(9, 30), jump(1, 0), block(3), say(0), say(1), say(9), say(3), jump(2, 9), block(4),
            say(0), say(1), say(9), say(3), say(4), give(1),
        ]
        self.check(calls, 3, (10, 20), [9, 10, 20, 30, 10, 10, 20, 30, 10, 30, 0, 20])

    def test_eight_are_handed_over(self):
        calls = [
            code(6), block(), num(6, 60), num(7, 70), jump(1, *range(8)), block(*range(20, 28)),
            *[say(value) for value in range(20, 28)], give(20),
        ]
        words = (0, 10, 20, 30, 40, 50)
        self.check(calls, 2, words, [8, *words, 60, 70, 0, 0])

    def test_sums_round_a_loop(self):
        # 5 counts down and 6 adds up: the sum of 1 to 10.
        calls = [
            code(1), block(), num(1, 1), num(2, 0), jump(1, 0, 2), block(5, 6), two(7, 0, 6, 5), two(8, 1, 5, 1),
            fork(8, 1, 2, 2, 8, 7, 7), block(9), give(9),
        ]
        self.check(calls, 12, (10,), [0, 0, 55])
        self.check(calls, 11, (10,), [0, 2])


if __name__ == "__main__":
    unittest.main()
