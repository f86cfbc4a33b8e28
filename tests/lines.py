"""Calls written as the interface tells them, and their answers, call by call."""

from valueslots.blocks import answers

TOP = 4294967295


def code(k):
    return [0, k]


def block(*taken):
    return [1, len(taken), *taken]


def num(x, n):
    return [2, x, n]


def two(x, o, a, b):
    return [3, x, o, a, b]


def say(a):
    return [4, a]


def jump(t, *handed):
    return [5, t, len(handed), *handed]


def fork(v, t, u, n, *handed):
    return [6, v, t, u, n, len(handed), *handed]


def give(v):
    return [7, v]


def line(calls):
    """The calls as one list; only such lines are handed in as the document allows."""
    numbers = [number for call in calls for number in call]
    assert 1 <= len(calls) <= 40 and len(numbers) <= 1100
    return numbers


def told(*calls):
    """The answer to each call; each of these calls answers one number."""
    flat = answers(line(calls))
    assert flat[0::2] == [1] * len(calls), flat
    assert len(flat) == 2 * len(calls), flat
    return flat[1::2]


def last(*calls):
    return told(*calls)[-1]


def ended_blocks(count):
    """Calls that make this many blocks, none of them open."""
    return [block(), give(0)] * count


def rows(count):
    return [say(0)] * count
