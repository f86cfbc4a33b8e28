"""Calls about one code, read from one list of whole numbers, and their answers in another."""

from valueslots.asking import (
    ask_in_registers, ask_lives, ask_most, ask_registers, ask_run, ask_run_in_registers, ask_there, ask_together,
    refusal_of_all,
)
from valueslots.building import Code

CODE = 0
BLOCK = 1
NUM = 2
TWO = 3
SAY = 4
JUMP = 5
FORK = 6
GIVE = 7
RUN = 8
LIVES = 9
THERE = 10
MOST = 11
TOGETHER = 12
REGISTERS = 13
INREGISTERS = 14

# By the call's number: how many whole numbers it has, and whether a list stands behind them.
FORMS = (
    (1, False),
    (0, True),
    (2, False),
    (4, False),
    (1, False),
    (1, True),
    (4, True),
    (1, False),
    (1, True),
    (2, False),
    (2, False),
    (0, False),
    (2, False),
    (0, False),
    (0, False),
    (1, True),
)


# For each call in order: how many numbers are answered, then these.
def answers(calls):
    code = Code()
    told = []
    for call, numbers, listed in split_calls(calls):
        answer = answer_to(code, call, numbers, listed)
        told.append(len(answer))
        told.extend(answer)
    return told


# Each call as its number, its whole numbers, and its list (empty where it has none).
def split_calls(calls):
    parts = []
    at = 0
    while at < len(calls):
        call = calls[at]
        behind = at + 1 + FORMS[call][0]
        numbers = calls[at + 1:behind]
        listed = []
        at = behind
        if FORMS[call][1]:
            at = behind + 1 + calls[behind]
            listed = calls[behind + 1:at]
        parts.append((call, numbers, listed))
    return parts


def answer_to(code, call, numbers, listed):
    if call <= GIVE:
        return [build(code, call, numbers, listed)]
    refusal = refusal_of_all(code)
    if refusal < 0:
        return [refusal]
    return ask(code, call, numbers, listed)


# Do a call that builds the code, and give the one number that it answers.
def build(code, call, numbers, listed):
    if call == CODE:
        return code.begin(numbers[0])
    if call == BLOCK:
        return code.block(listed)
    if call == NUM:
        return code.num(numbers[0], numbers[1])
    if call == TWO:
        return code.two(numbers[0], numbers[1], numbers[2], numbers[3])
    if call == SAY:
        return code.say(numbers[0])
    if call == JUMP:
        return code.jump(numbers[0], listed)
    if call == FORK:
        return code.fork(numbers[0], numbers[1], numbers[2], numbers[3], listed)
    # The one call left that builds: give.
    return code.give(numbers[0])


# Give all that a call that asks about fair code answers.
def ask(code, call, numbers, listed):
    if call == RUN:
        return ask_run(code, numbers[0], listed)
    if call == LIVES:
        return ask_lives(code, numbers[0], numbers[1])
    if call == THERE:
        return ask_there(code, numbers[0], numbers[1])
    if call == MOST:
        return ask_most(code)
    if call == TOGETHER:
        return ask_together(code, numbers[0], numbers[1])
    if call == REGISTERS:
        return ask_registers(code)
    if call == INREGISTERS:
        return ask_in_registers(code)
    # The one call left that asks: runregisters.
    return ask_run_in_registers(code, numbers[0], listed)
