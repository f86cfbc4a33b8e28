"""Calls written as the interface tells them, and their answers, call by call."""

from valueslots.blocks import answers

TOP = 4294967295


def code(k):
    return [0, k]


def block(*taken):
    return [1, len(taken), *taken]


def num(x, n):
    return [2, x, n]


def two(x, o, a, b):
    return [3, x, o, a, b]


def say(a):
    return [4, a]


def jump(t, *handed):
    return [5, t, len(handed), *handed]


def fork(v, t, u, n, *handed):
    return [6, v, t, u, n, len(handed), *handed]


def give(v):
    return [7, v]


def run(n, *words):
    return [8, n, len(words), *words]


def lives(b, r):
    return [9, b, r]


def there(b, p):
    return [10, b, p]


def most():
    return [11]


def together(x, y):
    return [12, x, y]


def registers():
    return [13]


def inregisters():
    return [14]


def runregisters(n, *words):
    return [15, n, len(words), *words]


# One call of each kind that asks, all answered of any fair code to which 0 words are handed and that gives value 20.
QUESTIONS = (
    run(3), lives(0, 0), there(0, 0), most(), together(20, 20), registers(), inregisters(), runregisters(3),
)


def line(calls):
    """The calls as one list; only such lines are handed in as the document allows."""
    numbers = [number for call in calls for number in call]
    assert 1 <= len(calls) <= 40 and len(numbers) <= 1100
    return numbers


def answered(*calls):
    """The answer to each call, a list each."""
    flat = answers(line(calls))
    parts = []
    at = 0
    while at < len(flat):
        parts.append(flat[at + 1:at + 1 + flat[at]])
        at += 1 + flat[at]
    assert at == len(flat) and len(parts) == len(calls), flat
    return parts


def asked(*calls):
    """The answer to the last call, a list; the calls ahead of it build the code, and none of them is refused.

    On the way it is seen that all this holds of every code that is asked about: the list handed in is as it was, a second
    time gives the same, and a run in registers tells the same as a run.
    """
    numbers = line(calls)
    first = answers(numbers)
    assert numbers == line(calls), "the list handed in is changed"
    assert answers(numbers) == first, "a second time gives another answer"
    parts = answered(*calls)
    assert all(part[0] >= 0 for part in parts[:-1]), parts
    words = [number + 1 for number in range(([0] + [call[1] for call in calls if call[0] == 0])[-1])]
    for n in (1, 2, 7):
        for handed in (words, words[::-1], [0] * len(words)):
            told_by_run = answered(*calls[:-1], run(n, *handed))[-1]
            assert told_by_run == answered(*calls[:-1], runregisters(n, *handed))[-1], "the runs differ"
    return parts[-1]


def told(*calls):
    """The answer to each call; each of these calls answers one number."""
    flat = answers(line(calls))
    assert flat[0::2] == [1] * len(calls), flat
    assert len(flat) == 2 * len(calls), flat
    return flat[1::2]


def last(*calls):
    return told(*calls)[-1]


def ended_blocks(count):
    """Calls that make this many blocks, none of them open."""
    return [block(), give(0)] * count


def rows(count):
    return [say(0)] * count
