"""What the calls keep of the code: promises 1 to 3, also where no answer shows it."""

import unittest

from lines import block, code as code_call, fork, give, jump, line, num, say, two
from valueslots.blocks import build, split_calls
from valueslots.building import Code


def seen(code):
    """All that the code has, as it is now."""
    return code.words, [(block.taken, tuple(block.rows), block.end) for block in code.blocks]


def small_code():
    code = Code()
    code.begin(2)
    code.block([])
    code.num(2, 7)
    code.two(3, 10, 0, 1)
    code.say(3)
    return code


class CodeKept(unittest.TestCase):
    def test_new(self):
        self.assertEqual(seen(Code()), (0, []))

    def test_rows_in_order(self):
        rows = ((0, 2, 7), (2, 3, 10, 0, 1), (3, 3))
        self.assertEqual(seen(small_code()), (2, [((), rows, None)]))

    def test_blocks_with_each_end(self):
        code = Code()
        code.block([])
        code.jump(2, [4, 5])
        code.block([3, 1])
        code.fork(1, 2, 9, 2, [6, 7, 8])
        code.block([2])
        code.give(2)
        wanted = [((), (), (0, 2, (4, 5))), ((3, 1), (), (1, 1, 2, (6, 7), 9, (8,))), ((2,), (), (2, 2))]
        self.assertEqual(seen(code), (0, wanted))

    def test_each_number_of_a_call_has_its_place(self):
        calls = [
            code_call(4), block(), num(11, 12), two(13, 1, 14, 15), say(16), fork(17, 1, 2, 1, 18, 19, 20),
            block(21, 22), jump(2, 23, 24), block(25), give(26),
        ]
        code = Code()
        for call, numbers, listed in split_calls(line(calls)):
            build(code, call, numbers, listed)
        wanted = [
            ((), ((0, 11, 12), (2, 13, 1, 14, 15), (3, 16)), (1, 17, 1, (18,), 2, (19, 20))),
            ((21, 22), (), (0, 2, (23, 24))),
            ((25,), (), (2, 26)),
        ]
        self.assertEqual(seen(code), (4, wanted))

    def test_the_first_n_of_a_fork_go_to_t(self):
        for n in range(4):
            code = Code()
            code.block([])
            code.fork(0, 1, 2, n, [7, 8, 9])
            self.assertEqual(code.blocks[0].end, (1, 0, 1, (7, 8, 9)[:n], 2, (7, 8, 9)[n:]))

    def test_code_makes_it_all_new(self):
        code = small_code()
        code.begin(5)
        self.assertEqual(seen(code), (5, []))

    def test_refused_with_a_block_open(self):
        code = small_code()
        before = seen(code)
        refused = [
            code.begin(7), code.block([]), code.block([40]), code.num(40, 1), code.two(1, 11, 1, 1),
            code.two(1, 1, 1, 40), code.say(40), code.jump(1, [0] * 9), code.jump(10, []), code.jump(1, [40]),
            code.fork(1, 1, 1, 1, []), code.fork(1, 1, 1, 0, [0] * 17), code.fork(40, 1, 1, 0, []),
            code.fork(1, 0, 1, 0, []), code.give(40),
        ]
        self.assertEqual(refused, [-1, -3, -3, -2, -4, -2, -2, -1, -2, -2, -1, -1, -2, -2, -2])
        self.assertEqual(seen(code), before)

    def test_refused_without_a_block_open(self):
        code = small_code()
        code.give(3)
        before = seen(code)
        refused = [
            code.begin(7), code.block([40]), code.block([0] * 9), code.num(1, 1), code.two(1, 1, 1, 1), code.say(1),
            code.jump(1, []), code.fork(1, 1, 1, 0, []), code.give(1),
        ]
        self.assertEqual(refused, [-1, -2, -1, -3, -3, -3, -3, -3, -3])
        self.assertEqual(seen(code), before)

    def test_refused_in_a_full_block(self):
        code = Code()
        code.block([])
        for number in range(12):
            code.num(number, number)
        before = seen(code)
        self.assertEqual([code.num(1, 1), code.two(1, 1, 1, 1), code.say(1)], [-1, -1, -1])
        self.assertEqual(seen(code), before)

    def test_what_is_handed_in_is_copied(self):
        code = Code()
        taken = [1, 2]
        handed = [3, 4]
        code.block(taken)
        code.jump(1, handed)
        taken.append(40)
        handed.append(40)
        self.assertEqual(seen(code), (0, [((1, 2), (), (0, 1, (3, 4)))]))


if __name__ == "__main__":
    unittest.main()
