"""Promise 4: each call's own refusals, their order, and what is as it was behind a refusal."""

import itertools
import unittest

from lines import (
    TOP, answered, asked, block, code, fork, give, inregisters, jump, lives, most, num, registers, run, runregisters,
    say, there, together, two,
)

RUNS = (run, runregisters)
# Two words are handed over; block 0 has two rows, block 1 none, block 2 one.
CODE = [
    code(2), block(), num(20, 7), two(21, 0, 20, 1), jump(1, 21), block(30), fork(30, 2, 2, 0), block(), say(0), give(1),
]
OPEN = [code(2), block(), num(20, 7)]
UNFAIR = [code(2), block(), num(20, 7), num(20, 7), give(0)]
UNFAIR_AND_NOT_WHOLE = [code(2), block(), num(20, 7), num(20, 7), jump(1)]


class OwnRefusals(unittest.TestCase):
    def test_n_500_and_501(self):
        for a_run in RUNS:
            self.assertEqual(asked(*CODE, a_run(500, 3, 4)), [1, 3, 0, 4])
            for n in (501, 502, TOP):
                self.assertEqual(asked(*CODE, a_run(n, 3, 4)), [-1])

    def test_n_500_is_run_to_its_end(self):
        loop = [code(1), block(), jump(1), block(), say(0), jump(1)]
        for a_run in RUNS:
            self.assertEqual(asked(*loop, a_run(500, 9)), [499] + [9] * 499 + [2])

    def test_words_too_few_and_too_many(self):
        for k in range(7):
            calls = [code(k), block(), num(20, 7), give(20)]
            for count in range(11):
                wanted = [0, 0, 7] if count == k else [-5]
                for a_run in RUNS:
                    self.assertEqual(asked(*calls, a_run(1, *range(count))), wanted)

    def test_no_words_are_handed_over_unless_code_says_so(self):
        for a_run in RUNS:
            self.assertEqual(asked(block(), num(20, 7), give(20), a_run(1)), [0, 0, 7])
            self.assertEqual(asked(block(), num(20, 7), give(20), a_run(1, 0)), [-5])

    def test_a_run_of_no_blocks_is_refused_too(self):
        for a_run in RUNS:
            self.assertEqual(asked(*CODE, a_run(0, 3)), [-5])

    def test_n_ahead_of_the_words(self):
        for a_run, n, count in itertools.product(RUNS, (500, 501, TOP), (0, 1, 2, 3, 10)):
            wanted = [-1] if n > 500 else [-5] if count != 2 else [1, 0, 0, 1]
            self.assertEqual(asked(*CODE, a_run(n, *range(count))), wanted)

    def test_places_of_lives_and_there(self):
        for question in (lives, there):
            for b, rows in enumerate((2, 0, 1)):
                for r in range(rows + 1):
                    self.assertGreaterEqual(asked(*CODE, question(b, r))[0], 0)
                for r in (rows + 1, rows + 2, 12, 13, TOP):
                    self.assertEqual(asked(*CODE, question(b, r)), [-2])
            for b in (3, 4, 9, 10, TOP):
                for r in (0, 1, TOP):
                    self.assertEqual(asked(*CODE, question(b, r)), [-2])

    def test_the_last_place_of_a_full_block(self):
        calls = [code(1), block(), *[say(0)] * 12, give(0)]
        for question in (lives, there):
            self.assertEqual(asked(*calls, question(0, 12)), [1, 0])
            self.assertEqual(asked(*calls, question(0, 13)), [-2])

    def test_the_last_of_ten_blocks(self):
        calls = [code(1), block(), jump(1)]
        for number in range(1, 9):
            calls += [block(), jump(number + 1)]
        for question in (lives, there):
            self.assertEqual(asked(*calls, block(), give(0), question(9, 0)), [1, 0])
            self.assertEqual(asked(*calls, block(), give(0), question(10, 0)), [-2])

    def test_together_of_values_that_are_given_and_that_are_not(self):
        given = (0, 1, 20, 21, 30)
        for x, y in itertools.product((0, 1, 2, 5, 6, 19, 20, 21, 22, 29, 30, 31, 39, 40, TOP), repeat=2):
            answer = asked(*CODE, together(x, y))
            if x in given and y in given:
                self.assertIn(answer, ([0], [1]))
            else:
                self.assertEqual(answer, [-2])

    def test_together_of_a_value_of_an_earlier_code(self):
        calls = [code(3), block(), num(20, 7), give(20), together(2, 2), code(2), block(), num(21, 7), give(21)]
        told = answered(*calls, together(2, 2), together(20, 20), together(1, 1))
        self.assertEqual([told[4], *told[9:]], [[1], [-2], [-2], [1]])


# Each call with something wrong of its own, for a code to which 2 words are handed.
WRONG = (
    run(501, 1, 2), run(501), run(1, 1), run(1, 1, 2, 3), runregisters(501, 1, 2), runregisters(501),
    runregisters(1, 1), runregisters(1, 1, 2, 3), lives(9, 0), lives(0, 13), lives(TOP, TOP), there(9, 0), there(0, 13),
    there(TOP, TOP), together(0, 39), together(39, 0), together(TOP, TOP),
)


class Order(unittest.TestCase):
    def test_not_whole_ahead_of_all(self):
        for calls in ([], [code(2)], OPEN, UNFAIR_AND_NOT_WHOLE):
            for question in (*WRONG, most(), registers(), inregisters()):
                self.assertEqual(asked(*calls, question), [-6])

    def test_not_fair_ahead_of_the_calls_own(self):
        for question in (*WRONG, most(), registers(), inregisters()):
            self.assertEqual(asked(*UNFAIR, question), [-7])

    def test_each_reason_of_not_whole_ahead_of_not_fair(self):
        twice = [num(20, 7), num(20, 7)]
        not_whole = (
            [block(), *twice],
            [block(), *twice, jump(1)],
            [block(), *twice, fork(20, 1, 2, 0), block(), give(20)],
            [block(), *twice, jump(1, 20), block(), give(20)],
            [block(), *twice, jump(1), block(5), give(20)],
            [block(5), *twice, give(20)],
            [block(), num(20, 7), give(20), block(), jump(3)],
            [block(), give(5), block(5), jump(1)],
        )
        for calls in not_whole:
            self.assertEqual(asked(*calls, most()), [-6], calls)

    def test_the_calls_own(self):
        wanted = [-1, -1, -5, -5] * 2 + [-2] * 9
        for question, refusal in zip(WRONG, wanted, strict=True):
            self.assertEqual(asked(*CODE, question), [refusal])


class AllAsItWas(unittest.TestCase):
    def test_behind_refusals(self):
        before = answered(*CODE, inregisters(), registers(), most())[len(CODE):]
        after = answered(*CODE, *WRONG, inregisters(), registers(), most())[len(CODE) + len(WRONG):]
        self.assertEqual(after, before)

    def test_behind_answers(self):
        questions = [
            run(9, 3, 4), lives(0, 1), there(1, 0), most(), together(0, 30), registers(), inregisters(),
            runregisters(9, 3, 4),
        ]
        told = answered(*CODE, *questions, *reversed(questions))[len(CODE):]
        self.assertEqual(told[:8], told[:7:-1])

    def test_refused_calls_that_build_leave_the_code(self):
        refused = [code(7), block(40), num(1, 1), two(1, 1, 1, 1), say(1), jump(1), fork(1, 1, 1, 0), give(1)]
        told = answered(*CODE, inregisters(), *refused, inregisters(), run(9, 3, 4))[len(CODE):]
        self.assertEqual(told[1:9], [[-1], [-2]] + [[-3]] * 6)
        self.assertEqual(told[9], told[0])
        self.assertEqual(told[10], [1, 3, 0, 4])

    def test_an_open_block_goes_on_behind_a_question(self):
        calls = [*OPEN, most(), say(20), run(1, 3, 4), give(20), run(1, 3, 4), lives(0, 1)]
        self.assertEqual(answered(*calls)[3:], [[-6], [2], [-6], [1], [1, 7, 0, 7], [1, 20]])

    def test_the_code_is_built_on_between_questions(self):
        calls = [
            code(1), block(), fork(0, 1, 2, 0), most(), block(), give(0), run(2, 0), block(), say(0), registers(),
            give(0), run(2, 0), run(2, 5), block(), give(0), run(2, 0),
        ]
        self.assertEqual(
            answered(*calls),
            [[1], [0], [1], [-6], [1], [2], [-6], [2], [1], [-6], [3], [1, 0, 0, 0], [0, 0, 5], [3], [4], [-7]],
        )

    def test_the_code_is_begun_anew_between_questions(self):
        small = [block(), num(9, 5), give(9)]
        calls = [code(1), block(), give(0), run(1, 3), code(0), run(1), *small, run(1, 3), run(1), registers()]
        self.assertEqual(
            answered(*calls),
            [[1], [0], [1], [0, 0, 3], [0], [-6], [0], [1], [1], [-5], [0, 0, 5], [1, 9, 0]],
        )


if __name__ == "__main__":
    unittest.main()
