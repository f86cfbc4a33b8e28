"""The document's words about fair code, said once more and as plainly as can be, to compare answers with.

Code is here a pair: how many words are handed over, and a list of blocks (taken, rows, end). Rows and ends are calls
as lines.py writes them; nothing of the package is used.
"""

import functools

NUM, TWO, SAY, JUMP, FORK, GIVE = 2, 3, 4, 5, 6, 7
WORDS = 2 ** 32

OPERATIONS = {
    0: lambda a, b: (a + b) & (WORDS - 1),
    1: lambda a, b: a - b if a >= b else a - b + WORDS,
    2: lambda a, b: (a * b) & (WORDS - 1),
    3: lambda a, b: a & b,
    4: lambda a, b: a | b,
    5: lambda a, b: (a | b) - (a & b),
    6: lambda a, b: (a * 2 ** (b & 31)) & (WORDS - 1),
    7: lambda a, b: a // 2 ** (b & 31),
    8: lambda a, b: int(a < b),
    9: lambda a, b: int(a == b),
    10: lambda a, b: divmod(a, b)[0],
}


def calls_of(code):
    words, blocks = code
    calls = [[0, words]]
    for taken, rows, end in blocks:
        calls += [[1, len(taken), *taken], *rows, end]
    return calls


def leads(end):
    """The ways of an end: pairs of a block and what's handed over to it."""
    if end[0] == JUMP:
        return [(end[1], end[3:])]
    if end[0] == FORK:
        v, t, u, n = end[1:5]
        handed = end[6:]
        return [(t, handed[:n]), (u, handed[n:])]
    return []


def uses(step):
    """The values that a row or an end uses."""
    if step[0] == TWO:
        return step[3:]
    if step[0] == JUMP:
        return step[3:]
    if step[0] == FORK:
        return [step[1], *step[6:]]
    return [] if step[0] == NUM else [step[1]]


def gives(step):
    return [step[1]] if step[0] in (NUM, TWO) else []


class Model:
    def __init__(self, code):
        self.words, self.blocks = code
        self.steps = [[*rows, end] for taken, rows, end in self.blocks]
        self.taken = [list(taken) for taken, rows, end in self.blocks]

    def is_whole(self):
        if not self.blocks or self.taken[0]:
            return False
        ways = [way for steps in self.steps for way in leads(steps[-1])]
        return all(t < len(self.blocks) and len(handed) == len(self.taken[t]) for t, handed in ways)

    def ways_to(self, b):
        """All ways from block 0 to b that stand on no block twice, each as the set of blocks it stands on."""
        found = []
        begun = [[0]]
        while begun:
            way = begun.pop()
            if way[-1] == b:
                found.append(set(way))
            begun += [way + [t] for t, handed in leads(self.steps[way[-1]][-1]) if t not in way]
        return found

    def given(self):
        given = list(range(self.words))
        for taken, steps in zip(self.taken, self.steps):
            given += taken + [x for step in steps for x in gives(step)]
        return given

    def given_by_then(self, b, at):
        given = list(range(self.words)) + self.taken[b] + [x for step in self.steps[b][:at] for x in gives(step)]
        for other in set.intersection(*self.ways_to(b)) - {b}:
            given += self.taken[other] + [x for step in self.steps[other] for x in gives(step)]
        return given

    def is_fair(self):
        if len(set(self.given())) < len(self.given()):
            return False
        if not all(self.ways_to(b) for b in range(len(self.blocks))):
            return False
        for b, steps in enumerate(self.steps):
            for at, step in enumerate(steps):
                if not set(uses(step)) <= set(self.given_by_then(b, at)):
                    return False
        return True

    @functools.lru_cache(maxsize=None)
    def is_live(self, value, b, at):
        """Whether a way leads on from the place to a use, found by going all ways on."""
        seen = set()
        places = [(b, at)]
        while places:
            b, at = places.pop()
            if (b, at) in seen:
                continue
            seen.add((b, at))
            step = self.steps[b][at]
            if value in uses(step):
                return True
            if value in gives(step):
                continue
            if at + 1 < len(self.steps[b]):
                places.append((b, at + 1))
            places += [(t, 0) for t, handed in leads(step) if value not in self.taken[t]]
        return False

    def lives(self, b, r):
        # What is used is given, in fair code.
        return [value for value in sorted(self.given()) if self.is_live(value, b, r)]

    def comes_in(self, b):
        return [value for value in self.lives(b, 0) if value not in self.taken[b]]

    def there(self, b, p):
        if p > 0:
            return sorted({*self.lives(b, p), *gives(self.steps[b][p - 1])})
        return sorted({*self.comes_in(b), *self.taken[b], *range(0 if b else self.words)})

    def points(self):
        return [(b, p) for b, steps in enumerate(self.steps) for p in range(len(steps))]

    def most(self):
        count = max(len(self.there(b, p)) for b, p in self.points())
        return [count, *next(point for point in self.points() if len(self.there(*point)) == count)]

    def together(self, x, y):
        return int(any({x, y} <= set(self.there(b, p)) for b, p in self.points()))

    def comes_to_be_with(self, value):
        if value < self.words:
            return list(range(value))
        for b, taken in enumerate(self.taken):
            if value in taken:
                return self.comes_in(b) + taken[:taken.index(value)]
        for b, steps in enumerate(self.steps):
            for r, step in enumerate(steps):
                if value in gives(step):
                    return [other for other in self.lives(b, r + 1) if other != value]
        raise AssertionError(f"{value} isn't given")

    @functools.lru_cache(maxsize=None)
    def slot(self, value):
        others = {self.slot(other) for other in self.comes_to_be_with(value)}
        return min(set(range(40)) - others)

    def registers(self):
        return {value: self.slot(value) for value in sorted(self.given())}

    def in_registers(self):
        """The code in registers, as code."""
        return self.words, [
            ([self.slot(value) for value in taken], [self.row_in_registers(row) for row in rows],
             self.end_in_registers(end))
            for taken, rows, end in self.blocks
        ]

    def row_in_registers(self, row):
        if row[0] == NUM:
            return [NUM, self.slot(row[1]), row[2]]
        if row[0] == TWO:
            return [TWO, self.slot(row[1]), row[2], self.slot(row[3]), self.slot(row[4])]
        return [SAY, self.slot(row[1])]

    def end_in_registers(self, end):
        if end[0] == GIVE:
            return [GIVE, self.slot(end[1])]
        if end[0] == JUMP:
            return [*end[:3], *map(self.slot, end[3:])]
        return [FORK, self.slot(end[1]), *end[2:6], *map(self.slot, end[6:])]

    def run(self, n, words):
        held = dict(enumerate(words))
        said = []
        b = 0
        for step_of_block in range(n):
            for row in self.steps[b][:-1]:
                if row[0] == NUM:
                    held[row[1]] = row[2]
                elif row[0] == SAY:
                    said.append(held[row[1]])
                elif row[2] == 10 and held[row[4]] == 0:
                    return [len(said), *said, 1]
                else:
                    held[row[1]] = OPERATIONS[row[2]](held[row[3]], held[row[4]])
            end = self.steps[b][-1]
            if end[0] == GIVE:
                return [len(said), *said, 0, held[end[1]]]
            way = 1 if end[0] == FORK and held[end[1]] == 0 else 0
            b, handed = leads(end)[way]
            held.update({x: word for x, word in zip(self.taken[b], [held[value] for value in handed])})
        return [len(said), *said, 2]


def in_numbers(code):
    words, blocks = code
    numbers = [words, len(blocks)]
    for taken, rows, end in blocks:
        numbers += [len(taken), *taken, len(rows)]
        for row in rows:
            numbers += {NUM: [0], TWO: [2], SAY: [3]}[row[0]] + row[1:]
        if end[0] == GIVE:
            numbers += [2, end[1]]
        elif end[0] == JUMP:
            numbers += [0, end[1], len(end) - 3, *end[3:]]
        else:
            (t, to_t), (u, to_u) = leads(end)
            numbers += [1, end[1], t, len(to_t), *to_t, u, len(to_u), *to_u]
    return numbers
