"""Promise 4: registers and inregisters; that runregisters answers as run is tested with the runs."""

import itertools
import unittest

from lines import asked, block, code, fork, give, inregisters, jump, most, num, registers, run, runregisters, say, two

# From block 0 to 3, on to 1, and on to 2.
DOWN_AND_UP = [
    block(), num(20, 1), jump(3, 20),
    block(), num(24, 9), two(22, 0, 21, 24), jump(2, 22, 20),
    block(30, 31), say(20), two(32, 0, 30, 31), give(32),
    block(21), num(25, 5), say(25), jump(1),
]

# Each form of row and end.
ALL_FORMS = [
    code(2),
    block(), num(7, 99), two(8, 1, 0, 7), say(8), fork(8, 2, 1, 1, 0, 1, 7),
    block(20, 21), say(20), jump(2, 21),
    block(30), give(30),
]

NO_VALUES = [block(), jump(1), block(), jump(1)]


class Registers(unittest.TestCase):
    def check(self, calls, slots):
        told = [number for value in sorted(slots) for number in (value, slots[value])]
        self.assertEqual(asked(*calls, registers()), [len(slots), *told])
        self.assertEqual(asked(*calls, most())[0], len(set(slots.values())))

    def test_handed_to_the_code_used_or_not(self):
        for k in range(7):
            calls = [code(k), block(), num(20, 1), give(20)]
            self.check(calls, {**{value: value for value in range(k)}, 20: 0})

    def test_the_least_that_none_has_that_is_live_behind(self):
        # 0 and 1 are not live any more where 10 comes to be.
        self.check([code(3), block(), num(10, 1), two(11, 0, 10, 2), give(11)], {0: 0, 1: 1, 2: 2, 10: 0, 11: 0})
        self.check([code(3), block(), num(10, 1), say(0), give(2)], {0: 0, 1: 1, 2: 2, 10: 1})
        self.check([code(3), block(), num(10, 1), *[say(x) for x in (0, 1, 2)], give(10)], {0: 0, 1: 1, 2: 2, 10: 3})

    def test_the_least_not_the_last_that_got_free(self):
        calls = [code(3), block(), say(2), say(0), num(10, 1), say(1), num(11, 1), say(10), give(11)]
        self.check(calls, {0: 0, 1: 1, 2: 2, 10: 0, 11: 1})

    def test_a_row_may_give_into_the_register_of_what_it_uses_last(self):
        self.check([code(2), block(), two(9, 0, 0, 1), give(9)], {0: 0, 1: 1, 9: 0})
        self.check([code(2), block(), two(9, 0, 0, 1), say(0), give(9)], {0: 0, 1: 1, 9: 1})
        self.check([code(2), block(), two(9, 0, 0, 1), say(0), say(1), give(9)], {0: 0, 1: 1, 9: 2})

    def test_given_and_never_used(self):
        self.check([code(1), block(), num(9, 1), give(0)], {0: 0, 9: 1})
        self.check([code(1), block(), num(9, 1), num(8, 1), two(7, 0, 0, 0), give(0)], {0: 0, 9: 1, 8: 1, 7: 1})
        self.check([block(), num(9, 1), num(8, 1), give(8)], {9: 0, 8: 0})

    def test_taken_over_with_those_that_come_in_live_and_those_ahead(self):
        calls = [block(), num(20, 1), jump(1, 20, 20, 20), block(9, 8, 7), *[say(x) for x in (7, 8, 9)], give(20)]
        self.check(calls, {20: 0, 9: 1, 8: 2, 7: 3})

    def test_taken_over_in_their_order_not_by_their_numbers(self):
        calls = [code(1), block(), jump(1, 0, 0, 0), block(30, 5, 17), *[say(x) for x in (5, 17, 30)], give(5)]
        self.check(calls, {0: 0, 30: 0, 5: 1, 17: 2})

    def test_taken_over_and_never_used(self):
        calls = [code(1), block(), jump(1, 0, 0, 0), block(9, 8, 7), say(8), give(0)]
        self.check(calls, {0: 0, 9: 1, 8: 2, 7: 3})

    def test_taken_over_between_those_that_come_in_live(self):
        calls = [code(4), block(), jump(1, 0, 2, 0), block(9, 8, 7), *[say(x) for x in (9, 8, 7, 3)], give(1)]
        self.check(calls, {0: 0, 1: 1, 2: 2, 3: 3, 9: 0, 8: 2, 7: 4})

    def test_what_comes_in_live_is_not_what_is_handed_over(self):
        calls = [code(2), block(), jump(1, 0, 1), block(5, 6), say(6), give(5)]
        self.check(calls, {0: 0, 1: 1, 5: 0, 6: 1})
        calls = [code(2), block(), jump(1, 0, 1), block(5, 6), say(6), say(0), give(5)]
        self.check(calls, {0: 0, 1: 1, 5: 1, 6: 2})

    def test_blocks_in_any_order_of_their_numbers(self):
        self.check(DOWN_AND_UP, {20: 0, 21: 1, 22: 1, 24: 2, 25: 2, 30: 1, 31: 2, 32: 0})

    def test_the_numbers_of_the_blocks_do_not_count(self):
        # The same blocks, each time numbered otherwise.
        for one, two_, three in itertools.permutations((1, 2, 3)):
            blocks = {
                one: [block(10), num(11, 1), fork(10, two_, three, 1, 11)],
                two_: [block(12), say(10), jump(three)],
                three: [block(), say(20), jump(three)],
            }
            calls = [block(), num(20, 1), num(21, 1), jump(one, 21)]
            for number in (1, 2, 3):
                calls += blocks[number]
            self.check(calls, {20: 0, 21: 1, 10: 1, 11: 2, 12: 2})

    def test_both_ways_of_a_fork(self):
        calls = [
            code(2), block(), fork(0, 1, 2, 0), block(), num(5, 1), say(5), jump(3, 5), block(), num(6, 1), say(0),
            jump(3, 6), block(7), say(1), give(7),
        ]
        self.check(calls, {0: 0, 1: 1, 5: 0, 6: 2, 7: 0})

    def test_round_a_loop(self):
        calls = [
            code(2), block(), num(20, 7), jump(1, 0), block(5), say(20), two(6, 1, 5, 1), fork(6, 1, 2, 1, 6), block(),
            give(20),
        ]
        self.check(calls, {0: 0, 1: 1, 20: 2, 5: 0, 6: 0})

    def test_live_round_a_loop_though_used_only_ahead(self):
        calls = [code(1), block(), jump(1), block(), say(0), num(5, 1), say(5), jump(2), block(), num(6, 1), jump(1)]
        self.check(calls, {0: 0, 5: 1, 6: 1})

    def test_a_loop_within_a_loop(self):
        calls = [
            code(1), block(), num(1, 1), jump(1, 0), block(5), jump(2, 5), block(6), two(7, 1, 6, 1), fork(7, 2, 3, 1, 7),
            block(), two(8, 1, 5, 1), fork(8, 1, 4, 1, 8), block(), give(1),
        ]
        self.check(calls, {0: 0, 1: 1, 5: 0, 6: 2, 7: 2, 8: 0})

    def test_values_the_least_first(self):
        calls = [code(1), block(), num(39, 1), num(7, 1), num(20, 1), say(39), say(7), say(20), give(0)]
        self.assertEqual(asked(*calls, registers()), [4, 0, 0, 7, 2, 20, 3, 39, 1])

    def test_no_value_is_given(self):
        self.assertEqual(asked(*NO_VALUES, registers()), [0])

    def test_all_forty_values(self):
        calls = [code(6), block(), *[num(x, x) for x in range(6, 18)], jump(1, *range(8)), block(*range(18, 26))]
        calls += [*[num(x, x) for x in range(26, 38)], jump(2, 0, 1), block(38, 39), give(17)]
        # Of 0 to 17 only 17 comes in to block 1 and block 2, and 0 and 1 to block 1.
        slots = {value: value for value in range(6)}
        behind = {6: 6, 7: 7, 17: 8}
        slots.update(behind)
        slots.update({value: 8 for value in range(8, 17)})
        slots.update(zip(range(18, 26), (2, 3, 4, 5, 6, 7, 9, 10)))
        slots.update({value: 2 for value in range(26, 38)})
        slots.update({38: 0, 39: 1})
        self.check(calls, slots)


class InRegisters(unittest.TestCase):
    def test_each_form(self):
        wanted = [
            2, 3,
            0, 3, 0, 2, 99, 2, 3, 1, 0, 2, 3, 3, 1, 3, 2, 1, 0, 1, 2, 1, 2,
            2, 0, 1, 1, 3, 0, 0, 2, 1, 1,
            1, 0, 0, 2, 0,
        ]
        self.assertEqual(asked(*ALL_FORMS, inregisters()), wanted)

    def test_one_block(self):
        self.assertEqual(asked(code(1), block(), give(0), inregisters()), [1, 1, 0, 0, 2, 0])
        self.assertEqual(asked(block(), num(39, 39), give(39), inregisters()), [0, 1, 0, 1, 0, 0, 39, 2, 0])

    def test_the_operation_the_number_and_the_blocks_are_not_changed(self):
        for operation in range(11):
            calls = [code(1), block(), num(30, 30), two(31, operation, 30, 30), give(31), inregisters()]
            self.assertEqual(asked(*calls), [1, 1, 0, 2, 0, 0, 30, 2, 0, operation, 0, 0, 2, 0])
        calls = [code(2), block(), fork(1, 2, 1, 0), block(), jump(2), block(), give(1), inregisters()]
        self.assertEqual(asked(*calls), [2, 3, 0, 0, 1, 1, 2, 0, 1, 0, 0, 0, 0, 2, 0, 0, 0, 2, 1])

    def test_what_each_way_hands_over(self):
        for n in range(4):
            calls = [
                code(4), block(), fork(3, 1, 2, n, 2, 1, 0), block(*range(10, 10 + n)), give(3),
                block(*range(20, 23 - n)), give(3), inregisters(),
            ]
            handed = [2, 1, 0]
            slots = [0, 1, 2]
            wanted = [4, 3, 0, 0, 1, 3, 1, n, *handed[:n], 2, 3 - n, *handed[n:]]
            wanted += [n, *slots[:n], 0, 2, 3, 3 - n, *slots[:3 - n], 0, 2, 3]
            self.assertEqual(asked(*calls), wanted)

    def test_blocks_in_any_order_of_their_numbers(self):
        wanted = [
            0, 4,
            0, 1, 0, 0, 1, 0, 3, 1, 0,
            0, 2, 0, 2, 9, 2, 1, 0, 1, 2, 0, 2, 2, 1, 0,
            2, 1, 2, 2, 3, 0, 2, 0, 0, 1, 2, 2, 0,
            1, 1, 2, 0, 2, 5, 3, 2, 0, 1, 0,
        ]
        self.assertEqual(asked(*DOWN_AND_UP, inregisters()), wanted)

    def test_no_value(self):
        self.assertEqual(asked(*NO_VALUES, inregisters()), [0, 2, 0, 0, 0, 1, 0, 0, 0, 0, 1, 0])


class RunInRegisters(unittest.TestCase):
    def test_the_same_as_run(self):
        for calls, words in ((DOWN_AND_UP, ()), (ALL_FORMS, (5, 6)), (ALL_FORMS, (99, 6)), (NO_VALUES, ())):
            for n in (0, 1, 2, 3, 4, 5, 500):
                self.assertEqual(asked(*calls, runregisters(n, *words)), asked(*calls, run(n, *words)))

    def test_told(self):
        self.assertEqual(asked(*DOWN_AND_UP, runregisters(9)), [2, 5, 1, 0, 11])
        self.assertEqual(asked(*ALL_FORMS, runregisters(9, 100, 6)), [1, 1, 0, 100])
        self.assertEqual(asked(*ALL_FORMS, runregisters(9, 99, 6)), [2, 0, 6, 0, 99])
        self.assertEqual(asked(*NO_VALUES, runregisters(9)), [0, 2])


if __name__ == "__main__":
    unittest.main()
