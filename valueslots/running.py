"""Runs of code, in values or in registers."""

from valueslots.building import FORK_END, GIVE_END, LAST_VALUE, NUMBER_ROW, TWO_ROW

ALL_WORDS = 4294967296
WORD_BITS = 32

SUM = 0
LESS = 1
PRODUCT = 2
AND = 3
OR = 4
EXCLUSIVE_OR = 5
TIMES_POWER = 6
DIVIDED_BY_POWER = 7
IS_LESS = 8
IS_SAME = 9

# How a run stands.
IS_OVER = 0
FAILED = 1
GOES_ON = 2


# What a run of n blocks tells: how many words were said, these, and how it stands.
def run(code, n, words):
    held = words + [0] * (LAST_VALUE + 1 - len(words))
    said = []
    stands = run_blocks(code.blocks, n, held, said)
    return [len(said)] + said + stands


# Go through up to n blocks, from block 0; held and said change on the way.
def run_blocks(blocks, n, held, said):
    number = 0
    for turn in range(n):
        block = blocks[number]
        if not run_rows(block.rows, held, said):
            return [FAILED]
        if block.end[0] == GIVE_END:
            return [IS_OVER, held[block.end[1]]]
        number = run_end(blocks, block.end, held)
    return [GOES_ON]


# Do the rows in order; False if the run fails in one.
def run_rows(rows, held, said):
    for row in rows:
        if row[0] == NUMBER_ROW:
            held[row[1]] = row[2]
        elif row[0] == TWO_ROW:
            word = combined(row[2], held[row[3]], held[row[4]])
            if word is None:
                return False
            held[row[1]] = word
        else:
            said.append(held[row[1]])
    return True


# Hand over as a jump or a fork does, and give the number of the block it leads to.
def run_end(blocks, end, held):
    if end[0] == FORK_END and held[end[1]] != 0:
        return hand_over(blocks, end[2], end[3], held)
    if end[0] == FORK_END:
        return hand_over(blocks, end[4], end[5], held)
    return hand_over(blocks, end[1], end[2], held)


# All words are read ahead of the first that is put, as they change places all at once.
def hand_over(blocks, t, handed, held):
    words = [held[value] for value in handed]
    for value, word in zip(blocks[t].taken, words):
        held[value] = word
    return t


# The word that the operation makes of two, or None where the run fails.
def combined(operation, first, second):
    if operation == SUM:
        return (first + second) % ALL_WORDS
    if operation == LESS:
        return (first - second) % ALL_WORDS
    if operation == PRODUCT:
        return first * second % ALL_WORDS
    if operation == AND:
        return first & second
    if operation == OR:
        return first | second
    if operation == EXCLUSIVE_OR:
        return first ^ second
    if operation == TIMES_POWER:
        return (first << (second % WORD_BITS)) % ALL_WORDS
    if operation == DIVIDED_BY_POWER:
        return first >> (second % WORD_BITS)
    if operation == IS_LESS:
        return 1 if first < second else 0
    if operation == IS_SAME:
        return 1 if first == second else 0
    # The one operation left divides.
    return None if second == 0 else first // second
