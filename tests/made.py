"""Codes made by chance, the same ones each time: fair ones, and ones with one number changed."""

import random

from lines import TOP, fork, give, jump, num, say, two
from model import Model, leads

EDGES = (0, 1, 2, 31, 32, 33, 4294967294, TOP)


def targets_of_blocks(rng, count):
    """For each block where its end leads (0 to 2 blocks), so that each block is reached from block 0."""
    targets = [[] for block in range(count)]
    reached = [0]
    # In any order, so that ways lead to lower numbers too.
    for block in rng.sample(range(1, count), count - 1):
        free = [other for other in reached if len(targets[other]) < 2]
        targets[rng.choice(free)].append(block)
        reached.append(block)
    for block in range(count):
        while count > 1 and len(targets[block]) < 2 and rng.random() < 0.45:
            targets[block].append(rng.randrange(1, count))
        rng.shuffle(targets[block])
    return targets


def blocks_ahead(targets):
    """For each block the others that every way from block 0 to it stands on."""
    ends = [give(0) if not way else jump(way[0]) if len(way) == 1 else fork(0, *way, 0) for way in targets]
    model = Model((0, [([], [], end) for end in ends]))
    return [set.intersection(*model.ways_to(block)) - {block} for block in range(len(targets))]


def made_row(rng, given, fresh):
    kind = rng.random()
    if not given or (kind < 0.3 and fresh):
        return num(fresh.pop(), rng.choice(EDGES) if rng.random() < 0.4 else rng.randrange(TOP + 1))
    if kind < 0.75 and fresh:
        return two(fresh.pop(), rng.randrange(11), rng.choice(given), rng.choice(given))
    return say(rng.choice(given))


def made_end(rng, given, targets, counts):
    handed = [[rng.choice(given) for place in range(counts[target])] for target in targets]
    if not targets:
        return give(rng.choice(given))
    if len(targets) == 1:
        return jump(targets[0], *handed[0])
    return fork(rng.choice(given), *targets, len(handed[0]), *handed[0], *handed[1])


def fair_code(rng):
    words = rng.choice((0, 0, 1, 2, 3, 6))
    count = rng.choice((1, 2, 3, 4, 5, 6, 7, 10))
    left = rng.randrange(1, 31 - 2 * count)
    fresh = rng.sample(range(words, 40), 40 - words)
    targets = targets_of_blocks(rng, count)
    ahead = blocks_ahead(targets)
    counts = [0] + [rng.choice((0, 0, 1, 1, 2, 3)) if count < 10 else rng.randrange(2) for block in range(1, count)]
    given_in = {}
    blocks = {}
    # A block has more blocks ahead of it than each of these has.
    for block in sorted(range(count), key=lambda block: len(ahead[block])):
        taken = [fresh.pop() for place in range(counts[block])]
        given = list(range(words)) + taken + [value for other in ahead[block] for value in given_in[other]]
        given_in[block] = list(taken)
        rows = []
        while not given or (left > 0 and len(rows) < 12 and rng.random() < 0.7):
            rows.append(made_row(rng, given, fresh))
            left -= 1
            if rows[-1][0] != 4:
                given.append(rows[-1][1])
                given_in[block].append(rows[-1][1])
        blocks[block] = taken, rows, made_end(rng, given, targets[block], counts)
    return words, [blocks[block] for block in range(count)]


def places_of_values(code):
    """Each place in the code where a value stands: a list, and the index in it."""
    places = []
    for taken, rows, end in code[1]:
        places += [(taken, place) for place in range(len(taken))]
        for row in rows:
            places += [(row, place) for place in {2: (1,), 3: (1, 3, 4), 4: (1,)}[row[0]]]
        places += [(end, place) for place in {5: range(3, len(end)), 6: (1, *range(6, len(end))), 7: (1,)}[end[0]]]
    return places


def places_of_targets(code):
    return [(end, place) for taken, rows, end in code[1] for place in {5: (1,), 6: (2, 3), 7: ()}[end[0]]]


def changed_code(rng, code):
    """The code with one value, or one block to which an end leads, put in the place of another."""
    words, blocks = code
    changed = words, [(list(taken), [list(row) for row in rows], list(end)) for taken, rows, end in blocks]
    targets = places_of_targets(changed)
    if targets and rng.random() < 0.3:
        where, place = rng.choice(targets)
        where[place] = rng.randrange(1, min(len(blocks) + 1, 10))
    else:
        where, place = rng.choice(places_of_values(changed))
        where[place] = rng.choice([*range(words), *Model(code).given(), rng.randrange(40)])
    return changed


def fair_codes(count, seed):
    rng = random.Random(seed)
    return [fair_code(rng) for turn in range(count)]


def changed_codes(count, seed):
    rng = random.Random(seed)
    return [changed_code(rng, fair_code(rng)) for turn in range(count)]


def made_words(rng, code):
    return [rng.choice(EDGES) if rng.random() < 0.6 else rng.randrange(TOP + 1) for word in range(code[0])]


def joins(code):
    """How many blocks more than one way leads to."""
    led_to = [t for taken, rows, end in code[1] for t, handed in leads(end)]
    return len({t for t in led_to if led_to.count(t) > 1})
