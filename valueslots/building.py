"""Code as the calls build it: blocks, each with what it takes over, its rows and its end."""

MOST_WORDS = 6
MOST_BLOCKS = 10
MOST_TAKEN = 8
MOST_ROWS = 12
MOST_HANDED_BY_JUMP = 8
MOST_HANDED_BY_FORK = 16
LAST_VALUE = 39
LAST_OPERATION = 10
FIRST_TARGET = 1
LAST_TARGET = 9

# The refusals, by the numbers the document gives them.
BAD_COUNT = -1
OUT_OF_RANGE = -2
WRONG_TIME = -3
NO_OPERATION = -4

# Rows and ends begin with the numbers by which the document tells code in numbers.
NUMBER_ROW = 0
TWO_ROW = 2
SAY_ROW = 3
JUMP_END = 0
FORK_END = 1
GIVE_END = 2


# Whether each of the numbers may be a value.
def all_values(numbers):
    return all([number <= LAST_VALUE for number in numbers])


# Whether an end may lead to each of the numbers.
def all_targets(numbers):
    return all([FIRST_TARGET <= number <= LAST_TARGET for number in numbers])


# A block's end is None while the block is open.
class Block:
    def __init__(self, taken):
        self.taken = tuple(taken)
        self.rows = []
        self.end = None


# The one code that calls are about. Each call's method gives its answer. It looks for refusals in the order in which
# the document tells them, and changes something only when there is none, so that a refused call leaves all as it was.
class Code:
    def __init__(self):
        self.words = 0
        self.blocks = []

    # The block whose end is not told yet, or None.
    def open_block(self):
        if len(self.blocks) == 0:
            return None
        last = self.blocks[-1]
        return last if last.end is None else None

    def begin(self, k):
        if k > MOST_WORDS:
            return BAD_COUNT
        self.words = k
        self.blocks = []
        return k

    def block(self, taken):
        if self.open_block() is not None:
            return WRONG_TIME
        if not all_values(taken):
            return OUT_OF_RANGE
        if len(self.blocks) >= MOST_BLOCKS or len(taken) > MOST_TAKEN:
            return BAD_COUNT
        self.blocks.append(Block(taken))
        return len(self.blocks) - 1

    def num(self, x, n):
        return self.put_row((NUMBER_ROW, x, n), [x])

    def two(self, x, o, a, b):
        # An unknown operation is told behind a missing open block, but ahead of put_row's other refusals.
        if self.open_block() is None:
            return WRONG_TIME
        if o > LAST_OPERATION:
            return NO_OPERATION
        return self.put_row((TWO_ROW, x, o, a, b), [x, a, b])

    def say(self, a):
        return self.put_row((SAY_ROW, a), [a])

    # Put the row, whose values are the used ones, behind the open block's others.
    def put_row(self, row, used):
        block = self.open_block()
        if block is None:
            return WRONG_TIME
        if not all_values(used):
            return OUT_OF_RANGE
        if len(block.rows) >= MOST_ROWS:
            return BAD_COUNT
        block.rows.append(row)
        return len(block.rows)

    def jump(self, t, handed):
        # As with two: what is handed over is counted between put_end's two refusals.
        if self.open_block() is None:
            return WRONG_TIME
        if len(handed) > MOST_HANDED_BY_JUMP:
            return BAD_COUNT
        return self.put_end((JUMP_END, t, tuple(handed)), handed, [t])

    def fork(self, v, t, u, n, handed):
        if self.open_block() is None:
            return WRONG_TIME
        if len(handed) < n or len(handed) > MOST_HANDED_BY_FORK:
            return BAD_COUNT
        end = (FORK_END, v, t, tuple(handed[:n]), u, tuple(handed[n:]))
        return self.put_end(end, [v] + handed, [t, u])

    def give(self, v):
        return self.put_end((GIVE_END, v), [v], [])

    # End the open block; the end's values are the used ones, and it leads to the targets.
    def put_end(self, end, used, targets):
        block = self.open_block()
        if block is None:
            return WRONG_TIME
        if not all_values(used) or not all_targets(targets):
            return OUT_OF_RANGE
        block.end = end
        return len(self.blocks)
