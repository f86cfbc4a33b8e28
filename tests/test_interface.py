"""The interface: how calls are handed in and how their answers are given back."""

import contextlib
import io
import unittest

from lines import TOP, block, code, ended_blocks, fork, give, jump, line, num, rows, say, told, two
from valueslots.blocks import answers

MANY_CALLS = [
    code(2), block(), num(2, TOP), two(3, 10, 0, 1), two(3, 11, 0, 1), say(3), fork(3, 1, 2, 1, 2, 3, 2),
    block(4), jump(2, 4, 4), block(5, 6), give(5), block(40), say(0), code(7), block(), code(0), block(),
]
MANY_ANSWERS = [2, 0, 1, 2, -4, 3, 1, 1, 2, 2, 3, -2, -3, -1, 3, 0, 0]


class LockedList(list):
    """A list that can be read only."""

    def refuse(self, *arguments, **named):
        raise AssertionError("the list handed in is changed")

    append = clear = extend = insert = pop = remove = reverse = sort = refuse
    __setitem__ = __delitem__ = __iadd__ = __imul__ = refuse


class Interface(unittest.TestCase):
    def test_each_answer_stands_behind_how_many_numbers_it_has(self):
        self.assertEqual(answers([0, 3, 1, 0, 2, 5, 9, 4, 40, 7, 5]), [1, 3, 1, 0, 1, 1, 1, -2, 1, 1])

    def test_each_call_as_it_is_handed_in(self):
        self.assertEqual(answers([0, 6]), [1, 6])
        self.assertEqual(answers([1, 2, 3, 4]), [1, 0])
        self.assertEqual(answers([1, 0, 2, 1, 2, 3, 1, 2, 3, 4, 4, 5]), [1, 0, 1, 1, 1, 2, 1, 3])
        self.assertEqual(answers([1, 0, 5, 1, 2, 3, 4, 1, 0, 6, 1, 2, 3, 1, 2, 5, 6]), [1, 0, 1, 1, 1, 1, 1, 2])
        self.assertEqual(answers([1, 0, 7, 1]), [1, 0, 1, 1])

    def test_many_calls(self):
        self.assertEqual(told(*MANY_CALLS), MANY_ANSWERS)

    def test_lists_that_are_longest(self):
        calls = [block(*[TOP] * 12), block(), jump(TOP, *[TOP] * 12), fork(TOP, TOP, TOP, TOP, *[TOP] * 20), give(0)]
        self.assertEqual(told(*calls), [-2, 0, -1, -1, 1])

    def test_40_calls(self):
        self.assertEqual(told(*[fork(0, 1, 1, 20, *range(20))] * 40), [-3] * 40)
        calls = ended_blocks(9) + [block()] + rows(12) + [give(0)] + [block()] * 8
        self.assertEqual(told(*calls)[18:], [9, *range(1, 13), 10] + [-1] * 8)

    def test_gives_back_a_list_of_whole_numbers(self):
        given = answers(line(MANY_CALLS))
        self.assertIs(type(given), list)
        self.assertEqual({type(number) for number in given}, {int})

    def test_the_list_handed_in_is_as_it_was(self):
        calls = line(MANY_CALLS)
        before = list(calls)
        answers(calls)
        self.assertEqual(calls, before)

    def test_the_list_handed_in_is_not_changed_for_a_while_either(self):
        self.assertEqual(answers(LockedList(line(MANY_CALLS))), answers(line(MANY_CALLS)))

    def test_a_second_time_gives_the_same(self):
        calls = line(MANY_CALLS)
        first = answers(calls)
        self.assertEqual(answers(calls), first)

    def test_nothing_is_kept_of_another_list(self):
        self.assertEqual(told(code(3), block(), say(0)), [3, 0, 1])
        self.assertEqual(told(say(0), block()), [-3, 0])

    def test_a_list_given_back_is_new_each_time(self):
        first = answers([0, 1])
        first.append(5)
        self.assertEqual(answers([0, 1]), [1, 1])

    def test_prints_nothing(self):
        printed = io.StringIO()
        with contextlib.redirect_stdout(printed), contextlib.redirect_stderr(printed):
            answers(line(MANY_CALLS))
        self.assertEqual(printed.getvalue(), "")


if __name__ == "__main__":
    unittest.main()
