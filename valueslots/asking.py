"""The calls that ask about the code or run it: each gives its answer as a list, a refusal as a list of one number."""

from valueslots.building import BAD_COUNT, OUT_OF_RANGE
from valueslots.fairness import is_fair, is_whole
from valueslots.living import are_together, live_in_code, most_there, there_in_code
from valueslots.parts import given_in_code
from valueslots.placing import code_in_slots, value_slots
from valueslots.running import run
from valueslots.telling import code_in_numbers, counted

MOST_RUN_BLOCKS = 500

# The refusals that only these calls have.
WRONG_WORDS = -5
NOT_WHOLE = -6
NOT_FAIR = -7


# The refusal that all calls here have ahead of their own, or 0 where there is none.
def refusal_of_all(code):
    if not is_whole(code):
        return NOT_WHOLE
    if not is_fair(code):
        return NOT_FAIR
    return 0


def ask_run(code, n, words):
    if n > MOST_RUN_BLOCKS:
        return [BAD_COUNT]
    if len(words) != code.words:
        return [WRONG_WORDS]
    return run(code, n, words)


# The code in registers is handed as many words, so it has the same refusals.
def ask_run_in_registers(code, n, words):
    return ask_run(in_registers(code), n, words)


def ask_lives(code, b, r):
    if not is_place(code, b, r):
        return [OUT_OF_RANGE]
    return counted(live_in_code(code)[b][r])


def ask_there(code, b, p):
    if not is_place(code, b, p):
        return [OUT_OF_RANGE]
    return counted(there_in_code(code)[b][p])


# A block has one place and one point more than rows.
def is_place(code, b, number):
    return b < len(code.blocks) and number <= len(code.blocks[b].rows)


def ask_together(code, x, y):
    given = given_in_code(code)
    if x not in given or y not in given:
        return [OUT_OF_RANGE]
    return [1 if are_together(code, x, y) else 0]


def ask_most(code):
    return most_there(code)


def ask_registers(code):
    slots = value_slots(code)
    answer = [len(slots)]
    for value in sorted(slots):
        answer.extend([value, slots[value]])
    return answer


def ask_in_registers(code):
    return code_in_numbers(in_registers(code))


def in_registers(code):
    return code_in_slots(code, value_slots(code))
