"""Whether code can be asked about: whether it is whole, and whether it is fair."""

from valueslots.parts import given_by_row, given_in_block, given_in_code, used_by_end, used_by_row, ways


# Whether there are blocks, none of them open, the first takes nothing over, and all ends fit where they lead.
def is_whole(code):
    if len(code.blocks) == 0 or code.open_block() is not None:
        return False
    if len(code.blocks[0].taken) > 0:
        return False
    return all([ways_fit(code, block) for block in code.blocks])


def ways_fit(code, block):
    for t, handed in ways(block.end):
        if t >= len(code.blocks) or len(handed) != len(code.blocks[t].taken):
            return False
    return True


# The numbers of the blocks to which ends lead from block 0 without standing on the one left out (None: all count), in
# the order in which they are found. So a block that every way to another stands on is found ahead of that other.
def reached(code, left_out):
    found = [] if left_out == 0 else [0]
    at = 0
    while at < len(found):
        for t, handed in ways(code.blocks[found[at]].end):
            if t != left_out and t not in found:
                found.append(t)
        at += 1
    return found


# Fair in the document's sense; asked only of code that is whole.
def is_fair(code):
    given = given_in_code(code)
    if len(set(given)) != len(given):
        return False
    if len(reached(code, None)) != len(code.blocks):
        return False
    return all([uses_are_given(code, number) for number in range(len(code.blocks))])


# The values given by then as the block with this number begins.
def given_at_begin(code, number):
    given = list(range(code.words)) + list(code.blocks[number].taken)
    for other in range(len(code.blocks)):
        if other != number and number not in reached(code, other):
            given.extend(given_in_block(code.blocks[other]))
    return given


def uses_are_given(code, number):
    block = code.blocks[number]
    given = given_at_begin(code, number)
    for row in block.rows:
        if not all_among(used_by_row(row), given):
            return False
        given.extend(given_by_row(row))
    return all_among(used_by_end(block.end), given)


def all_among(used, given):
    return all([value in given for value in used])
