"""What rows and ends give and use, and where ends lead."""

from valueslots.building import FORK_END, JUMP_END, NUMBER_ROW, SAY_ROW


# The value that a row gives, in a list; a say row gives none.
def given_by_row(row):
    return [] if row[0] == SAY_ROW else [row[1]]


def used_by_row(row):
    if row[0] == NUMBER_ROW:
        return []
    if row[0] == SAY_ROW:
        return [row[1]]
    return [row[3], row[4]]


# An end uses what it hands over; a fork uses what it hands either way, whichever is gone.
def used_by_end(end):
    if end[0] == JUMP_END:
        return list(end[2])
    if end[0] == FORK_END:
        return [end[1]] + list(end[3]) + list(end[5])
    return [end[1]]


# Each way an end leads on: the block, and what is handed over to it. Of a fork, the way to t stands first.
def ways(end):
    if end[0] == JUMP_END:
        return [(end[1], end[2])]
    if end[0] == FORK_END:
        return [(end[2], end[3]), (end[4], end[5])]
    return []


# The values that a block takes over, then those that its rows give, in order.
def given_in_block(block):
    given = list(block.taken)
    for row in block.rows:
        given.extend(given_by_row(row))
    return given


# The values given anywhere; one that is given twice stands there twice.
def given_in_code(code):
    given = list(range(code.words))
    for block in code.blocks:
        given.extend(given_in_block(block))
    return given
