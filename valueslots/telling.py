"""Code in numbers."""

from valueslots.building import FORK_END, JUMP_END


# A list behind how many it has.
def counted(values):
    return [len(values)] + list(values)


def code_in_numbers(code):
    numbers = [code.words, len(code.blocks)]
    for block in code.blocks:
        numbers.extend(block_in_numbers(block))
    return numbers


# Rows are kept just as they are told in numbers.
def block_in_numbers(block):
    numbers = counted(block.taken) + [len(block.rows)]
    for row in block.rows:
        numbers.extend(row)
    return numbers + end_in_numbers(block.end)


def end_in_numbers(end):
    if end[0] == JUMP_END:
        return [end[0], end[1]] + counted(end[2])
    if end[0] == FORK_END:
        return [end[0], end[1], end[2]] + counted(end[3]) + [end[4]] + counted(end[5])
    return [end[0], end[1]]
