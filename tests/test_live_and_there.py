"""Promise 4: lives, there, most and together."""

import itertools
import unittest

from lines import asked, block, code, fork, give, jump, lives, most, num, say, there, together, two

# 1 is handed to the code and never used, 12 is given and never used.
STRAIGHT = [code(2), block(), num(10, 1), two(11, 0, 0, 10), num(12, 5), say(11), give(10)]

# Block 1 leads back to itself; 1 and 20 are used in it, and 20 in block 2 too.
LOOP = [
    code(2), block(), num(20, 7), jump(1, 0), block(5), say(20), two(6, 1, 5, 1), fork(6, 1, 2, 1, 6), block(), give(20),
]

# Blocks 1 to 3 are a loop, in which 20 is used in block 1 alone; 21 is used behind it, in block 4.
LONG_LOOP = [
    code(1), block(), num(20, 7), num(21, 8), jump(1), block(), say(20), jump(2), block(), jump(3), block(),
    fork(0, 1, 4, 0), block(), give(21),
]


class Lists(unittest.TestCase):
    def check(self, question, calls, wanted):
        """wanted: for each block, for each place or point, the values told."""
        for b, lists in enumerate(wanted):
            for place, values in enumerate(lists):
                self.assertEqual(asked(*calls, question(b, place)), [len(values), *values], (b, place))
            self.assertEqual(asked(*calls, question(b, len(lists))), [-2])


class Lives(Lists):
    def test_ahead_of_each_row_and_the_end(self):
        self.check(lives, STRAIGHT, [[[0], [0, 10], [10, 11], [10, 11], [10]]])

    def test_round_a_loop(self):
        self.check(lives, LOOP, [[[0, 1], [0, 1, 20]], [[1, 5, 20], [1, 5, 20], [1, 6, 20]], [[20]]])

    def test_round_a_loop_of_many_blocks(self):
        within = [0, 20, 21]
        self.check(lives, LONG_LOOP, [[[0], [0, 20], within], [within, within], [within], [within], [[21]]])

    def test_behind_its_use_when_a_way_leads_back(self):
        self.check(lives, [code(1), block(), jump(1), block(), say(0), jump(1)], [[[0]], [[0], [0]]])

    def test_not_behind_its_last_use(self):
        self.check(lives, [code(2), block(), say(0), jump(1), block(), say(1), give(1)], [[[0, 1], [1]], [[1], [1]]])

    def test_not_ahead_of_the_row_that_gives_it_round_a_loop(self):
        calls = [block(), jump(1), block(), num(5, 1), jump(2), block(), say(5), jump(1)]
        self.check(lives, calls, [[[]], [[], [5]], [[5], []]])

    def test_not_ahead_of_the_block_that_takes_it_over_round_a_loop(self):
        calls = [block(), num(20, 1), jump(1, 20), block(5), jump(2), block(), say(5), jump(1, 20)]
        self.check(lives, calls, [[[], [20]], [[5, 20]], [[5, 20], [20]]])

    def test_a_block_hands_to_itself_what_it_takes_over(self):
        self.check(lives, [code(1), block(), jump(1, 0), block(5), jump(1, 5)], [[[0]], [[5]]])

    def test_taken_over_and_used(self):
        self.check(lives, [code(1), block(), jump(1, 0), block(5), give(5)], [[[0]], [[5]]])

    def test_taken_over_and_never_used(self):
        self.check(lives, [code(2), block(), jump(1, 0), block(5), give(1)], [[[0, 1]], [[1]]])

    def test_every_use(self):
        plain = [block(), give(20)]
        taking = [block(30), give(20)]
        begin = [code(3), block(), num(20, 7)]
        for end in ([two(9, 0, 2, 20), give(20)], [two(9, 0, 20, 2), give(20)], [say(2), give(20)],
                    [fork(2, 1, 1, 0), *plain], [jump(1, 2), *taking], [fork(20, 1, 2, 1, 2), *taking, *plain],
                    [fork(20, 2, 1, 0, 2), *taking, *plain]):
            self.assertEqual(asked(*begin, *end, lives(0, 1)), [2, 2, 20])
        self.assertEqual(asked(*begin, give(2), lives(0, 1)), [1, 2])
        self.assertEqual(asked(*begin, num(9, 2), give(20), lives(0, 1)), [1, 20])

    def test_by_either_way_of_a_fork(self):
        calls = [code(3), block(), fork(0, 1, 2, 0), block(), give(1), block(), give(2)]
        self.check(lives, calls, [[[0, 1, 2]], [[1]], [[2]]])

    def test_where_ways_meet(self):
        calls = [
            code(3), block(), fork(0, 1, 2, 0), block(), num(10, 1), jump(3, 10), block(), jump(3, 1), block(11), say(2),
            give(11),
        ]
        self.check(lives, calls, [[[0, 1, 2]], [[2], [2, 10]], [[1, 2]], [[2, 11], [11]]])

    def test_the_least_first(self):
        calls = [block(), num(30, 1), num(4, 1), num(39, 1), num(11, 1), num(0, 1), jump(1, 39, 0, 30, 11, 4)]
        taken = [38, 12, 1, 25, 3]
        calls += [block(*taken), *[say(value) for value in taken], give(12)]
        self.assertEqual(asked(*calls, lives(0, 5)), [5, 0, 4, 11, 30, 39])
        self.assertEqual(asked(*calls, lives(1, 0)), [5, 1, 3, 12, 25, 38])
        self.assertEqual(asked(*calls, there(0, 5)), [5, 0, 4, 11, 30, 39])
        self.assertEqual(asked(*calls, there(1, 0)), [5, 1, 3, 12, 25, 38])

    def test_none(self):
        self.assertEqual(asked(block(), num(5, 1), give(5), lives(0, 0)), [0])


class There(Lists):
    def test_at_each_point(self):
        self.check(there, STRAIGHT, [[[0, 1], [0, 10], [10, 11], [10, 11, 12], [10]]])

    def test_round_a_loop(self):
        self.check(there, LOOP, [[[0, 1], [0, 1, 20]], [[1, 5, 20], [1, 5, 20], [1, 6, 20]], [[20]]])

    def test_round_a_loop_of_many_blocks(self):
        within = [0, 20, 21]
        self.check(there, LONG_LOOP, [[[0], [0, 20], within], [within, within], [within], [within], [[21]]])

    def test_handed_to_the_code_and_never_used(self):
        calls = [code(3), block(), num(10, 1), jump(1), block(), give(10)]
        self.check(there, calls, [[[0, 1, 2], [10]], [[10]]])

    def test_handed_to_the_code_and_used_in_a_later_block_alone(self):
        calls = [code(3), block(), num(10, 1), jump(1), block(), give(1)]
        self.check(there, calls, [[[0, 1, 2], [1, 10]], [[1]]])

    def test_taken_over_and_never_used(self):
        calls = [code(1), block(), jump(1, 0, 0), block(6, 5), say(0), give(0)]
        self.check(there, calls, [[[0]], [[0, 5, 6], [0]]])

    def test_given_by_a_two_row_and_never_used(self):
        calls = [code(1), block(), two(5, 0, 0, 0), num(6, 1), say(0), give(6)]
        self.check(there, calls, [[[0], [0, 5], [0, 6], [6]]])

    def test_given_by_the_last_row_and_never_used(self):
        calls = [code(1), block(), num(5, 1), give(0)]
        self.check(there, calls, [[[0], [0, 5]]])

    def test_a_block_without_rows_has_one_point(self):
        self.check(there, [code(2), block(), jump(1, 1), block(9), give(9)], [[[0, 1]], [[9]]])

    def test_none(self):
        self.assertEqual(asked(block(), num(5, 1), give(5), there(0, 0)), [0])


class Most(unittest.TestCase):
    def test_where_most_are(self):
        self.assertEqual(asked(*STRAIGHT, most()), [3, 0, 3])

    def test_the_first_point_of_several(self):
        self.assertEqual(asked(code(2), block(), say(0), say(1), say(0), give(1), most()), [2, 0, 0])
        self.assertEqual(asked(block(), num(5, 1), say(5), num(6, 1), say(5), num(7, 1), give(5), most()), [2, 0, 3])

    def test_the_first_block_of_several(self):
        self.assertEqual(asked(*LOOP, most()), [3, 0, 1])
        self.assertEqual(asked(*LONG_LOOP, most()), [3, 0, 2])

    def test_the_first_block_by_its_number_not_by_the_ways(self):
        calls = [
            block(), num(9, 1), jump(2), block(), num(5, 1), two(7, 0, 5, 9), give(7), block(), num(6, 1),
            two(8, 0, 6, 9), say(8), jump(1),
        ]
        self.assertEqual(asked(*calls, most()), [2, 1, 1])

    def test_a_later_block_with_more(self):
        calls = [code(1), block(), jump(1, 0, 0), block(5, 6), say(5), say(6), num(7, 1), give(0), most()]
        self.assertEqual(asked(*calls), [3, 1, 0])

    def test_more_by_one_counts_though_a_lower_point_had_many(self):
        calls = [code(3), block(), say(0), say(1), say(2), jump(1), block(), *[num(x, 1) for x in (5, 6, 7, 8)]]
        calls += [*[say(x) for x in (5, 6, 7, 8)], give(5)]
        self.assertEqual(asked(*calls, most()), [4, 1, 4])

    def test_what_is_never_used_counts(self):
        self.assertEqual(asked(code(6), block(), num(10, 1), give(10), most()), [6, 0, 0])
        self.assertEqual(asked(block(), num(10, 1), num(11, 1), give(10), most()), [2, 0, 2])
        self.assertEqual(asked(code(1), block(), jump(1, 0, 0, 0), block(5, 6, 7), give(0), most()), [4, 1, 0])

    def test_one(self):
        self.assertEqual(asked(block(), num(5, 1), give(5), most()), [1, 0, 1])
        self.assertEqual(asked(block(), jump(1), block(), num(5, 1), give(5), most()), [1, 1, 1])

    def test_no_value_is_there_at_all(self):
        self.assertEqual(asked(block(), jump(1), block(), jump(1), most()), [0, 0, 0])

    def test_many(self):
        calls = [code(6), block(), *[num(x, x) for x in range(6, 18)], jump(1, *range(6, 14)), block(*range(20, 28))]
        calls += [*[say(x) for x in (14, 15, 16, 17, 0, 1, 2, 3, 4, 5)], give(0)]
        self.assertEqual(asked(*calls, most()), [18, 0, 12])


class Together(unittest.TestCase):
    def check(self, calls, given, pairs):
        for x, y in itertools.product(given, repeat=2):
            wanted = 1 if x == y or (x, y) in pairs or (y, x) in pairs else 0
            self.assertEqual(asked(*calls, together(x, y)), [wanted], (x, y))

    def test_in_one_block(self):
        self.check(STRAIGHT, (0, 1, 10, 11, 12), ((0, 1), (0, 10), (10, 11), (10, 12), (11, 12)))

    def test_round_a_loop(self):
        pairs = ((0, 1), (0, 20), (1, 20), (1, 5), (1, 6), (5, 20), (6, 20))
        self.check(LOOP, (0, 1, 5, 6, 20), pairs)

    def test_round_a_loop_of_many_blocks(self):
        self.check(LONG_LOOP, (0, 20, 21), ((0, 20), (0, 21), (20, 21)))

    def test_one_and_the_same(self):
        # Each value is there where it is given, used or not.
        calls = [code(2), block(), num(10, 1), jump(1, 0), block(5), two(11, 0, 10, 10), give(10)]
        for value in (0, 1, 5, 10, 11):
            self.assertEqual(asked(*calls, together(value, value)), [1])

    def test_one_is_given_where_the_other_is_used_last(self):
        calls = [code(1), block(), two(5, 0, 0, 0), give(5)]
        self.check(calls, (0, 5), ())

    def test_handed_over_and_taken_over(self):
        calls = [code(2), block(), jump(1, 0), block(5), say(5), give(1)]
        self.check(calls, (0, 1, 5), ((0, 1), (1, 5)))

    def test_handed_over_and_used_behind_that(self):
        calls = [code(2), block(), jump(1, 0), block(5), say(5), give(0)]
        self.check(calls, (0, 1, 5), ((0, 1), (0, 5)))

    def test_on_two_ways(self):
        calls = [
            code(1), block(), fork(0, 1, 2, 0), block(), num(5, 1), give(5), block(), num(6, 1), say(0), give(6),
        ]
        self.check(calls, (0, 5, 6), ((0, 6),))

    def test_in_a_later_block_alone(self):
        calls = [block(), jump(2), block(), num(5, 1), num(6, 1), say(6), give(5), block(), num(7, 1), say(7), jump(1)]
        self.check(calls, (5, 6, 7), ((5, 6),))


if __name__ == "__main__":
    unittest.main()
