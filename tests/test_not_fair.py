"""Promise 4: -7, each of its reasons by itself, and fair code near each of them."""

import itertools
import unittest

from lines import QUESTIONS, asked, block, code, fork, give, jump, most, num, say, two

# Value 20 is given in block 0 of each code here, 5 is the value that is looked at, and 31 to 33 are to be free.
BEGIN = num(20, 7)


def taken(value):
    return value


def by_number(value):
    return num(value, 1)


def by_two(value):
    return two(value, 0, 20, 20)


GIVERS = (taken, by_number, by_two)


def block_with(*givers):
    """The calls of a block that gives all these, but for its end, and how many it takes over."""
    made = [giver(value) for giver, value in givers]
    values = [part for part in made if isinstance(part, int)]
    return [block(*values), *[part for part in made if not isinstance(part, int)]], len(values)


def chain(k, first, second):
    """Block 0 and two more, one behind another, that give these."""
    calls_1, count_1 = block_with(*first)
    calls_2, count_2 = block_with(*second)
    return [
        code(k), block(), BEGIN, jump(1, *[20] * count_1), *calls_1, jump(2, *[20] * count_2), *calls_2, give(20),
    ]


class Uses:
    """A use of value 5: the rows of a block, its end, and the blocks (from number s) to which that leads."""

    def __init__(self, name, rows, end, behind=()):
        self.name = name
        self.rows = rows
        self.end = end
        self.behind = behind

    @property
    def is_row(self):
        return self.rows != []


def all_uses(s):
    plain = [block(), give(20)]
    taking = [block(31), give(20)]
    return [
        Uses("two uses a", [two(32, 0, 5, 20)], give(20)),
        Uses("two uses b", [two(32, 0, 20, 5)], give(20)),
        Uses("say", [say(5)], give(20)),
        Uses("fork uses v", [], fork(5, s, s, 0), plain),
        Uses("give uses v", [], give(5)),
        Uses("jump hands over", [], jump(s, 5), taking),
        Uses("jump hands over behind another", [], jump(s, 20, 5), [block(31, 33), give(20)]),
        Uses("fork hands to t", [], fork(20, s, s + 1, 1, 5), taking + plain),
        Uses("fork hands to u", [], fork(20, s + 1, s, 0, 5), taking + plain),
        Uses("fork hands to u of two", [], fork(20, s, s + 1, 1, 20, 5), [*taking, block(33), give(20)]),
    ]


class Asked(unittest.TestCase):
    def refused(self, *calls):
        self.assertEqual(asked(*calls, most()), [-7], calls)

    def fine(self, *calls):
        self.assertGreaterEqual(asked(*calls, most())[0], 1, calls)


class GivenTwice(Asked):
    def test_within_one_block(self):
        for one, other in itertools.product(GIVERS, repeat=2):
            self.refused(*chain(0, [(one, 5), (other, 5)], []))
            self.refused(*chain(0, [], [(one, 5), (other, 5)]))
            self.fine(*chain(0, [(one, 5), (other, 6)], []))

    def test_in_two_blocks(self):
        for one, other in itertools.product(GIVERS, repeat=2):
            self.refused(*chain(0, [(one, 5)], [(other, 5)]))
            self.fine(*chain(0, [(one, 5)], [(other, 6)]))

    def test_handed_to_the_code_and_given_in_a_block(self):
        for giver in GIVERS:
            for value in range(6):
                for k in (value + 1, 6):
                    self.refused(*chain(k, [(giver, value)], []))
                    self.refused(*chain(k, [], [(giver, value)]))
                self.fine(*chain(value, [(giver, value)], []))

    def test_within_block_0(self):
        for one, other in itertools.product((by_number, by_two), repeat=2):
            self.refused(block(), BEGIN, one(5), other(5), give(20))
            self.fine(block(), BEGIN, one(5), other(6), give(20))
        for giver in (by_number, by_two):
            self.refused(code(6), block(), BEGIN, giver(5), give(20))
            self.fine(code(5), block(), BEGIN, giver(5), give(20))

    def test_in_block_0_and_another(self):
        for one, other in itertools.product((by_number, by_two), GIVERS):
            calls, count = block_with((other, 5))
            near, count = block_with((other, 6))
            self.refused(block(), BEGIN, one(5), jump(1, *[20] * count), *calls, give(20))
            self.fine(block(), BEGIN, one(5), jump(1, *[20] * count), *near, give(20))

    def test_on_two_ways_that_do_not_meet(self):
        for one, other in itertools.product(GIVERS, repeat=2):
            for value in (5, 6):
                calls_1, count_1 = block_with((one, 5))
                calls_2, count_2 = block_with((other, value))
                end = fork(20, 1, 2, count_1, *[20] * (count_1 + count_2))
                calls = [block(), BEGIN, end, *calls_1, give(20), *calls_2, give(20)]
                if value == 5:
                    self.refused(*calls)
                else:
                    self.fine(*calls)

    def test_every_value_and_every_place(self):
        for value in range(40):
            self.refused(block(), num(value, 1), num(value, 1), give(value))
        taken_over = [1, 2, 3, 4, 5, 6, 7, 8]
        for first, second in itertools.combinations(range(8), 2):
            values = list(taken_over)
            values[second] = values[first]
            self.refused(block(), BEGIN, jump(1, *[20] * 8), block(*values), give(20))
        self.fine(block(), BEGIN, jump(1, *[20] * 8), block(*taken_over), give(20))


class NotReached(Asked):
    def test_no_way_leads_to_a_block(self):
        self.refused(block(), BEGIN, give(20), block(), give(20))
        self.refused(block(), BEGIN, jump(2), block(), give(20), block(), give(20))
        self.refused(block(), BEGIN, fork(20, 1, 1, 0), block(), give(20), block(), give(20))
        self.fine(block(), BEGIN, jump(1), block(), give(20))

    def test_a_fork_leads_to_both(self):
        self.fine(block(), BEGIN, fork(20, 1, 2, 0), block(), give(20), block(), give(20))
        self.fine(block(), BEGIN, fork(20, 2, 1, 0), block(), give(20), block(), give(20))

    def test_a_block_leads_to_itself_alone(self):
        self.refused(block(), BEGIN, give(20), block(), jump(1))
        self.refused(block(), BEGIN, jump(2), block(), jump(1), block(), give(20))
        self.fine(block(), BEGIN, jump(1), block(), jump(1))

    def test_blocks_lead_to_one_another_alone(self):
        self.refused(block(), BEGIN, give(20), block(), jump(2), block(), jump(1))
        self.fine(block(), BEGIN, jump(2), block(), jump(2), block(), jump(1))

    def test_a_block_that_leads_on_but_is_not_led_to(self):
        self.refused(block(), BEGIN, jump(1), block(), give(20), block(), jump(1))
        self.fine(block(), BEGIN, jump(2), block(), give(20), block(), jump(1))

    def test_through_many_blocks_down(self):
        calls = [block(), BEGIN, jump(9)]
        for number in range(1, 10):
            calls += [block(), jump(number - 1) if number > 1 else give(20)]
        self.fine(*calls)
        for cut in range(2, 10):
            cut_calls = list(calls)
            cut_calls[2 * cut + 2] = give(20)
            self.refused(*cut_calls)


class NotGivenByThen(Asked):
    def blocks_with_use(self, use, ahead=(), between=()):
        """Block 1, which uses 5 behind the rows in between, with block 0 and the rows ahead in front of it."""
        return [block(), BEGIN, *ahead, jump(1), block(), *between, *use.rows, use.end, *use.behind]

    def test_given_nowhere(self):
        for use in all_uses(2):
            self.refused(*self.blocks_with_use(use))
            self.refused(code(5), *self.blocks_with_use(use))
            self.fine(code(6), *self.blocks_with_use(use))

    def test_given_nowhere_in_block_0(self):
        for use in all_uses(1):
            calls = [block(), BEGIN, *use.rows, use.end, *use.behind]
            self.refused(code(5), *calls)
            self.fine(code(6), *calls)
            self.fine(block(), BEGIN, num(5, 1), *use.rows, use.end, *use.behind)

    def test_given_ahead(self):
        for use in all_uses(2):
            for giver in (by_number, by_two):
                self.fine(*self.blocks_with_use(use, ahead=[giver(5)]))
                self.fine(*self.blocks_with_use(use, between=[giver(5)]))
            self.fine(block(), BEGIN, jump(1, 20), block(5), *use.rows, use.end, *use.behind)

    def test_given_later_in_the_block(self):
        for use in all_uses(2):
            for giver in (by_number, by_two):
                if use.is_row:
                    self.refused(block(), BEGIN, jump(1), block(), *use.rows, giver(5), use.end)
                    self.refused(block(), BEGIN, jump(1), block(), *use.rows, giver(5), jump(1))
                    self.refused(block(), BEGIN, *use.rows, giver(5), use.end)

    def test_given_by_the_row_itself(self):
        for a, b in ((5, 20), (20, 5), (5, 5)):
            self.refused(block(), BEGIN, two(5, 0, a, b), give(20))
            self.refused(block(), BEGIN, jump(1), block(), two(5, 0, a, b), jump(1))
            self.fine(block(), BEGIN, num(5, 1), two(6, 0, a, b), give(20))

    def test_taken_over_by_the_block_that_is_led_to(self):
        self.refused(block(), BEGIN, jump(1, 5), block(5), give(5))
        self.refused(block(), BEGIN, fork(20, 1, 2, 1, 5), block(5), give(5), block(), give(20))
        self.refused(block(), BEGIN, fork(20, 2, 1, 0, 5), block(5), give(5), block(), give(20))
        self.refused(block(), BEGIN, fork(5, 1, 1, 1, 20, 20), block(5), give(5))
        self.fine(block(), BEGIN, jump(1, 20), block(5), jump(1, 5))
        self.fine(block(), BEGIN, jump(1, 20), block(5), fork(5, 1, 1, 1, 5, 5))

    def test_given_in_a_block_behind(self):
        for giver in GIVERS:
            calls, count = block_with((giver, 5))
            end = fork(20, 2, 3, count, *[20] * count)
            for use in all_uses(4):
                if use.is_row:
                    self.refused(block(), BEGIN, jump(1), block(), *use.rows, jump(2, *[20] * count), *calls, give(20))
                    self.refused(block(), BEGIN, jump(1), block(), *use.rows, end, *calls, give(20), block(), give(20))

    def test_an_end_uses_what_the_next_block_gives(self):
        for use in all_uses(2):
            for giver in (by_number, by_two):
                if use.behind:
                    behind = [use.behind[0], giver(5), *use.behind[1:]]
                    self.refused(block(), BEGIN, jump(1), block(), use.end, *behind)
                    self.fine(block(), BEGIN, num(5, 1), jump(1), block(), use.end, *use.behind)

    def test_given_on_one_of_two_ways(self):
        for giver in GIVERS:
            calls, count = block_with((giver, 5))
            for use in all_uses(4):
                using = [block(), *use.rows, use.end, *use.behind]
                for end in (fork(20, 1, 2, count, *[20] * count), fork(20, 2, 1, 0, *[20] * count)):
                    self.refused(block(), BEGIN, end, *calls, jump(3), block(), jump(3), *using)

    def test_given_on_a_way_that_can_be_left_out(self):
        for giver in GIVERS:
            calls, count = block_with((giver, 5))
            for use in all_uses(3):
                using = [block(), *use.rows, use.end, *use.behind]
                for end in (fork(20, 1, 2, count, *[20] * count), fork(20, 2, 1, 0, *[20] * count)):
                    self.refused(block(), BEGIN, end, *calls, jump(2), *using)
                self.fine(block(), BEGIN, jump(1, *[20] * count), *calls, jump(2), *using)

    def test_given_on_the_other_way(self):
        for giver in GIVERS:
            calls, count = block_with((giver, 5))
            for use in all_uses(3):
                using = [block(), *use.rows, use.end, *use.behind]
                self.refused(block(), BEGIN, fork(20, 1, 2, count, *[20] * count), *calls, give(20), *using)

    def test_given_ahead_of_where_ways_part_and_meet(self):
        for giver in GIVERS:
            calls, count = block_with((giver, 5))
            for use in all_uses(5):
                using = [block(), *use.rows, use.end, *use.behind]
                ways = [fork(20, 2, 3, 0), block(), jump(4), block(), jump(4)]
                self.fine(block(), BEGIN, jump(1, *[20] * count), *calls, *ways, *using)

    def test_given_round_a_loop(self):
        for giver in GIVERS:
            calls, count = block_with((giver, 5))
            for use in all_uses(4):
                using = [block(), *use.rows, use.end, *use.behind]
                handed = [20] * count
                # Block 1 is the loop's first; 2 gives 5 and leads back to it; 3 uses 5.
                self.refused(
                    block(), BEGIN, jump(1), block(), fork(20, 2, 3, count, *handed), *calls, jump(1), *using,
                )
                # The same with 5 given in the loop's first block.
                self.fine(
                    block(), BEGIN, jump(1, *handed), *calls, fork(20, 2, 3, 0), block(), jump(1, *handed), *using,
                )

    def test_given_behind_the_use_within_a_loop(self):
        for giver in (by_number, by_two):
            for use in all_uses(2):
                if use.is_row:
                    self.refused(
                        block(), BEGIN, jump(1), block(), *use.rows, jump(2), block(), giver(5), fork(20, 1, 1, 0),
                    )
                    self.fine(
                        block(), BEGIN, jump(1), block(), giver(5), jump(2), block(), *use.rows, fork(20, 1, 1, 0),
                    )

    def test_every_way_counts_not_the_order_of_numbers(self):
        for use in all_uses(3):
            using = [block(), *use.rows, use.end]
            giving = [block(), num(5, 1), jump(1)]
            self.fine(block(), BEGIN, jump(2), *using, *giving, *use.behind)
            self.refused(block(), BEGIN, fork(20, 1, 2, 0), *using, *giving, *use.behind)

    def test_a_block_that_gives_is_not_ahead_of_itself(self):
        self.refused(block(), BEGIN, jump(1), block(), say(5), num(5, 1), fork(20, 1, 1, 0))
        self.fine(block(), BEGIN, jump(1), block(), num(5, 1), say(5), fork(20, 1, 1, 0))


class EveryCall(unittest.TestCase):
    def test_each_call_that_asks_is_refused(self):
        unfair = (
            [block(), BEGIN, num(20, 1), give(20)],
            [block(), BEGIN, give(20), block(), give(20)],
            [block(), BEGIN, say(5), give(20)],
        )
        for calls in unfair:
            for question in QUESTIONS:
                self.assertEqual(asked(*calls, question), [-7])

    def test_each_call_that_asks_is_answered(self):
        for question in QUESTIONS:
            self.assertGreaterEqual(asked(block(), BEGIN, say(20), give(20), question)[0], 0)

    def test_unfair_even_where_no_run_comes(self):
        calls = [block(), num(20, 0), fork(20, 1, 2, 0), block(), give(5), block(), give(20)]
        for question in QUESTIONS:
            self.assertEqual(asked(*calls, question), [-7])


if __name__ == "__main__":
    unittest.main()
