"""The registers of fair code's values, and the code in registers; a slot here is a register's number."""

from valueslots.building import FORK_END, JUMP_END, NUMBER_ROW, TWO_ROW, Block, Code
from valueslots.fairness import reached
from valueslots.living import coming_in, live_in_code
from valueslots.parts import given_by_row


# Each value's slot. A value comes in live only from blocks that every way stands on, and these are reached earlier, so
# those with which a value comes to be have their slots already.
def value_slots(code):
    slots = {}
    place_one_by_one(slots, list(range(code.words)), [])
    coming = coming_in(code)
    live = live_in_code(code)
    for number in reached(code, None):
        block = code.blocks[number]
        place_one_by_one(slots, list(block.taken), coming[number])
        place_rows(slots, block.rows, live[number])
    return slots


# Place values that come to be with the others, and each with those ahead of it.
def place_one_by_one(slots, values, others):
    there = list(others)
    for value in values:
        slots[value] = least_free(slots, there)
        there.append(value)


# Place what the rows give; behind row r are the values live at place r + 1.
def place_rows(slots, rows, places):
    for r, row in enumerate(rows):
        for value in given_by_row(row):
            slots[value] = least_free(slots, [other for other in places[r + 1] if other != value])


def least_free(slots, others):
    used = [slots[other] for other in others]
    slot = 0
    while slot in used:
        slot += 1
    return slot


def code_in_slots(code, slots):
    placed = Code()
    placed.words = code.words
    placed.blocks = [block_in_slots(block, slots) for block in code.blocks]
    return placed


def block_in_slots(block, slots):
    placed = Block(all_in_slots(block.taken, slots))
    placed.rows = [row_in_slots(row, slots) for row in block.rows]
    placed.end = end_in_slots(block.end, slots)
    return placed


def all_in_slots(values, slots):
    return tuple([slots[value] for value in values])


def row_in_slots(row, slots):
    if row[0] == NUMBER_ROW:
        return (row[0], slots[row[1]], row[2])
    if row[0] == TWO_ROW:
        return (row[0], slots[row[1]], row[2], slots[row[3]], slots[row[4]])
    return (row[0], slots[row[1]])


def end_in_slots(end, slots):
    if end[0] == JUMP_END:
        return (end[0], end[1], all_in_slots(end[2], slots))
    if end[0] == FORK_END:
        return (end[0], slots[end[1]], end[2], all_in_slots(end[3], slots), end[4], all_in_slots(end[5], slots))
    return (end[0], slots[end[1]])
