"""Which values are live at the places of fair code, and which are there at its points; all told the least first."""

from valueslots.parts import given_by_row, used_by_end, used_by_row, ways


# For each block the values that come in live to it. A value comes in round a loop only once it comes in to the blocks
# behind, so all blocks are gone through till nothing is new.
def coming_in(code):
    before = []
    coming = [[] for block in code.blocks]
    while coming != before:
        before = coming
        coming = [come_in_to(block, before) for block in code.blocks]
    return coming


def come_in_to(block, coming):
    return [value for value in live_in_block(block, coming)[0] if value not in block.taken]


# The values live ahead of each row of a block, and last those live ahead of its end.
def live_in_block(block, coming):
    backwards = [live_at_end(block.end, coming)]
    for row in reversed(block.rows):
        given = given_by_row(row)
        still = [value for value in backwards[-1] if value not in given]
        backwards.append(sorted(set(still + used_by_row(row))))
    return list(reversed(backwards))


def live_at_end(end, coming):
    live = used_by_end(end)
    for t, handed in ways(end):
        live.extend(coming[t])
    return sorted(set(live))


# For each block, for each of its places, the values live there.
def live_in_code(code):
    coming = coming_in(code)
    return [live_in_block(block, coming) for block in code.blocks]


# For each block, for each of its points, the values there.
def there_in_code(code):
    points = [there_in_block(block, places) for block, places in zip(code.blocks, live_in_code(code))]
    points[0][0] = sorted(set(points[0][0] + list(range(code.words))))
    return points


# Point r + 1 is the place behind row r, and point 0 the place ahead of all rows; what is given there is there, too,
# whether it is used or not.
def there_in_block(block, places):
    given = [list(block.taken)] + [given_by_row(row) for row in block.rows]
    return [sorted(set(live + new)) for live, new in zip(places, given)]


# How many values are there at once, at the most, and the first block and point where as many are.
def most_there(code):
    most = [0, 0, 0]
    for number, points in enumerate(there_in_code(code)):
        for point, values in enumerate(points):
            if len(values) > most[0]:
                most = [len(values), number, point]
    return most


def are_together(code, x, y):
    for points in there_in_code(code):
        if any([x in values and y in values for values in points]):
            return True
    return False
