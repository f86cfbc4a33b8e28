"""The interface: how calls are handed in and how their answers are given back."""

import contextlib
import io
import unittest

from lines import (
    TOP, answered, block, code, ended_blocks, fork, give, inregisters, jump, line, lives, most, num, registers, rows, run,
    runregisters, say, there, together, told, two,
)
from valueslots.blocks import answers

MANY_CALLS = [
    code(2), block(), num(2, TOP), two(3, 10, 0, 1), two(3, 11, 0, 1), say(3), fork(3, 1, 2, 1, 2, 3, 2),
    block(4), jump(2, 4, 4), block(5, 6), give(5), block(40), say(0), code(7), block(), code(0), block(),
]
MANY_ANSWERS = [2, 0, 1, 2, -4, 3, 1, 1, 2, 2, 3, -2, -3, -1, 3, 0, 0]

# Calls of all kinds, mixed, with a code that is begun anew on the way.
MIXED_CALLS = [
    run(1), code(2), most(), block(), num(2, TOP), lives(0, 0), two(3, 0, 0, 1), say(3), fork(3, 1, 1, 1, 2, 3),
    registers(), block(4), say(4), inregisters(), give(4), run(2, 5, 6), runregisters(2, 0, 0), run(1, 5, 6),
    lives(0, 2), there(0, 1), most(), together(0, 4), together(0, 5), registers(), inregisters(), code(7), run(501, 1, 2),
    block(), there(0, 0), give(0), most(), code(1), block(), give(0), most(), runregisters(1, 8), run(1),
]
MIXED_ANSWERS = [
    [-6], [2], [-6], [0], [1], [-6], [2], [3], [1], [-6], [1], [1], [-6], [2], [2, 11, TOP, 0, TOP],
    [2, 0, 0, 0, 0], [1, 11, 2], [2, 2, 3], [3, 0, 1, 2], [3, 0, 1], [0], [-2], [5, 0, 0, 1, 1, 2, 2, 3, 0, 4, 0],
    [2, 2, 0, 3, 0, 2, TOP, 2, 0, 0, 0, 1, 3, 0, 1, 0, 1, 1, 2, 1, 1, 0, 1, 0, 1, 3, 0, 2, 0], [-1], [-1],
    [2], [-6], [3], [-7], [1], [0], [1], [1, 0, 0], [0, 0, 8], [-5],
]


class LockedList(list):
    """A list that can be read only."""

    def refuse(self, *arguments, **named):
        raise AssertionError("the list handed in is changed")

    append = clear = extend = insert = pop = remove = reverse = sort = refuse
    __setitem__ = __delitem__ = __iadd__ = __imul__ = refuse


class Interface(unittest.TestCase):
    def test_each_answer_stands_behind_how_many_numbers_it_has(self):
        self.assertEqual(answers([0, 3, 1, 0, 2, 5, 9, 4, 40, 7, 5]), [1, 3, 1, 0, 1, 1, 1, -2, 1, 1])

    def test_each_call_as_it_is_handed_in(self):
        self.assertEqual(answers([0, 6]), [1, 6])
        self.assertEqual(answers([1, 2, 3, 4]), [1, 0])
        self.assertEqual(answers([1, 0, 2, 1, 2, 3, 1, 2, 3, 4, 4, 5]), [1, 0, 1, 1, 1, 2, 1, 3])
        self.assertEqual(answers([1, 0, 5, 1, 2, 3, 4, 1, 0, 6, 1, 2, 3, 1, 2, 5, 6]), [1, 0, 1, 1, 1, 1, 1, 2])
        self.assertEqual(answers([1, 0, 7, 1]), [1, 0, 1, 1])

    def test_many_calls(self):
        self.assertEqual(told(*MANY_CALLS), MANY_ANSWERS)

    def test_calls_that_ask_as_they_are_handed_in(self):
        small = [0, 1, 1, 0, 4, 0, 7, 0]
        built = [1, 1, 1, 0, 1, 1, 1, 1]
        asked = {
            (8, 1, 1, 5): [4, 1, 5, 0, 5], (8, 0, 1, 5): [2, 0, 2], (8, 1, 0): [1, -5], (9, 0, 1): [2, 1, 0],
            (10, 0, 1): [2, 1, 0], (11,): [3, 1, 0, 0], (12, 0, 0): [1, 1], (13,): [3, 1, 0, 0],
            (14,): [8, 1, 1, 0, 1, 3, 0, 2, 0], (15, 1, 1, 5): [4, 1, 5, 0, 5], (15, 501, 0): [1, -1],
        }
        for call, answer in asked.items():
            self.assertEqual(answers(small + list(call)), built + answer)
            # What stands behind it is read as the next call.
            self.assertEqual(answers(small + list(call) + [0, 4]), built + answer + [1, 4])

    def test_calls_of_all_kinds_mixed(self):
        self.assertEqual(answered(*MIXED_CALLS), MIXED_ANSWERS)

    def test_an_answer_without_values_has_its_count_alone(self):
        calls = [block(), jump(1), block(), jump(1)]
        self.assertEqual(answers(line([*calls, lives(0, 0), there(1, 0), registers()]))[8:], [1, 0, 1, 0, 1, 0])

    def test_no_number_but_a_refusal_is_below_0(self):
        for part in answered(*MIXED_CALLS):
            self.assertTrue(min(part) >= 0 or len(part) == 1)

    def test_the_longest_answers(self):
        calls = [code(1), block(), *[say(0)] * 12, jump(1), block(), *[say(0)] * 12, jump(1)]
        told_of_runs = answers(line([*calls, *[run(500, TOP), runregisters(500, TOP)] * 5]))[2 * len(calls):]
        self.assertEqual(told_of_runs, [6002, 6000, *[TOP] * 6000, 2] * 10)

    def test_lists_that_are_longest(self):
        calls = [block(*[TOP] * 12), block(), jump(TOP, *[TOP] * 12), fork(TOP, TOP, TOP, TOP, *[TOP] * 20), give(0)]
        self.assertEqual(told(*calls), [-2, 0, -1, -1, 1])

    def test_40_calls(self):
        self.assertEqual(told(*[fork(0, 1, 1, 20, *range(20))] * 40), [-3] * 40)
        calls = ended_blocks(9) + [block()] + rows(12) + [give(0)] + [block()] * 8
        self.assertEqual(told(*calls)[18:], [9, *range(1, 13), 10] + [-1] * 8)

    def test_gives_back_a_list_of_whole_numbers(self):
        for calls in (MANY_CALLS, MIXED_CALLS):
            given = answers(line(calls))
            self.assertIs(type(given), list)
            self.assertEqual({type(number) for number in given}, {int})

    def test_the_list_handed_in_is_as_it_was(self):
        for many in (MANY_CALLS, MIXED_CALLS):
            calls = line(many)
            before = list(calls)
            answers(calls)
            self.assertEqual(calls, before)

    def test_the_list_handed_in_is_not_changed_for_a_while_either(self):
        for calls in (MANY_CALLS, MIXED_CALLS):
            self.assertEqual(answers(LockedList(line(calls))), answers(line(calls)))

    def test_a_second_time_gives_the_same(self):
        for many in (MANY_CALLS, MIXED_CALLS):
            calls = line(many)
            first = answers(calls)
            self.assertEqual(answers(calls), first)
            self.assertEqual(answers(list(calls)), first)

    def test_nothing_is_kept_of_another_list(self):
        self.assertEqual(told(code(3), block(), say(0)), [3, 0, 1])
        self.assertEqual(told(say(0), block()), [-3, 0])
        self.assertEqual(told(code(0), block(), num(5, 1), give(5), together(5, 5)), [0, 0, 1, 1, 1])
        self.assertEqual(told(most(), together(5, 5)), [-6, -6])

    def test_a_list_given_back_is_new_each_time(self):
        first = answers([0, 1])
        first.append(5)
        self.assertEqual(answers([0, 1]), [1, 1])

    def test_prints_nothing(self):
        printed = io.StringIO()
        with contextlib.redirect_stdout(printed), contextlib.redirect_stderr(printed):
            answers(line(MANY_CALLS + MIXED_CALLS[:20]))
            answers(line(MIXED_CALLS))
        self.assertEqual(printed.getvalue(), "")


if __name__ == "__main__":
    unittest.main()
