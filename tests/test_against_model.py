"""Promise 4 on many codes: each answer is compared with the document's words said once more, in model.py."""

import random
import unittest

from lines import answered, inregisters, lives, most, registers, run, runregisters, there, together
from made import changed_codes, fair_codes, joins, made_words
from model import Model, calls_of, in_numbers

FAIR = fair_codes(250, 1)
MODELS = [Model(code) for code in FAIR]
CHANGED = changed_codes(600, 2)


def all_asked(code, questions):
    """The answers to the questions, in as many lines as are needed."""
    calls = calls_of(code)
    room = 40 - len(calls)
    parts = []
    for at in range(0, len(questions), room):
        parts += answered(*calls, *questions[at:at + room])[len(calls):]
    return parts


def largest_groups(near):
    """All groups of which any two are near one another and to which no other can be added; near: a set for each."""
    groups = []
    begun = [(set(), set(near), set())]
    while begun:
        group, open_ones, done = begun.pop()
        if not open_ones and not done:
            groups.append(group)
        for value in sorted(open_ones):
            begun.append((group | {value}, open_ones & near[value], done & near[value]))
            open_ones = open_ones - {value}
            done = done | {value}
    return groups


class AgainstModel(unittest.TestCase):
    def compare(self, code, wanted):
        """wanted: pairs of a question and its answer."""
        told = all_asked(code, [question for question, answer in wanted])
        for (question, answer), part in zip(wanted, told, strict=True):
            self.assertEqual(part, answer, (question, code))

    def test_the_codes_are_of_many_kinds(self):
        self.assertTrue(all(model.is_whole() and model.is_fair() for model in MODELS))
        self.assertEqual({len(code[1]) for code in FAIR}, {1, 2, 3, 4, 5, 6, 7, 10})
        self.assertGreater(sum(joins(code) > 1 for code in FAIR), 50)
        self.assertGreater(sum(model.most()[0] > model.words + 2 for model in MODELS), 50)

    def test_lives_and_there(self):
        for code, model in zip(FAIR, MODELS):
            wanted = []
            for b, place in model.points():
                for question, values in ((lives(b, place), model.lives(b, place)), (there(b, place), model.there(b, place))):
                    wanted.append((question, [len(values), *values]))
            self.compare(code, wanted)

    def test_most(self):
        for code, model in zip(FAIR, MODELS):
            self.compare(code, [(most(), model.most())])

    def test_together(self):
        rng = random.Random(3)
        for code, model in zip(FAIR, MODELS):
            given = model.given()
            pairs = [(rng.choice(given), rng.choice(given)) for turn in range(10)]
            self.compare(code, [(together(x, y), [model.together(x, y)]) for x, y in pairs])

    def test_registers(self):
        for code, model in zip(FAIR, MODELS):
            slots = model.registers()
            told = [number for pair in slots.items() for number in pair]
            self.compare(code, [(registers(), [len(slots), *told])])

    def test_no_two_that_are_there_at_once_share_a_register(self):
        for code, model in zip(FAIR, MODELS):
            told = all_asked(code, [registers()])[0]
            slots = dict(zip(told[1::2], told[2::2]))
            for b, p in model.points():
                used = [slots[value] for value in model.there(b, p)]
                self.assertEqual(len(set(used)), len(used), (b, p, code))

    def test_as_many_registers_are_used_as_values_are_there_at_once(self):
        for code in FAIR:
            slots, count = all_asked(code, [registers(), most()])
            self.assertEqual(sorted(set(slots[2::2])), list(range(count[0])), code)

    def test_wherever_any_two_of_some_values_are_there_all_of_them_are_somewhere(self):
        for code, model in zip(FAIR, MODELS):
            told = [set(part[1:]) for part in all_asked(code, [there(b, p) for b, p in model.points()])]
            near = {value: set().union(*[point for point in told if value in point]) - {value} for value in model.given()}
            for group in largest_groups(near):
                self.assertTrue(any(group <= point for point in told), (group, code))

    def test_inregisters(self):
        for code, model in zip(FAIR, MODELS):
            self.compare(code, [(inregisters(), in_numbers(model.in_registers()))])

    def test_run_and_runregisters(self):
        rng = random.Random(4)
        stood = set()
        for code, model in zip(FAIR, MODELS):
            placed = Model(model.in_registers())
            wanted = []
            for n in (0, 1, 2, 3, 5, rng.randrange(6, 40), 500):
                words = made_words(rng, code)
                answer = model.run(n, words)
                self.assertEqual(placed.run(n, words), answer, code)
                wanted += [(run(n, *words), answer), (runregisters(n, *words), answer)]
                stood.add(answer[answer[0] + 1])
            self.compare(code, wanted)
        self.assertEqual(stood, {0, 1, 2})

    def test_changed_codes_are_refused_or_answered(self):
        seen = []
        for code in CHANGED:
            model = Model(code)
            if not model.is_whole():
                wanted = [-6]
            elif not model.is_fair():
                wanted = [-7]
            else:
                wanted = model.most()
            self.compare(code, [(most(), wanted)])
            seen.append(wanted[0])
        self.assertGreater(seen.count(-6), 50)
        self.assertGreater(seen.count(-7), 150)
        self.assertGreater(len([first for first in seen if first >= 0]), 100)


if __name__ == "__main__":
    unittest.main()
