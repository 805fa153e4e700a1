"""The document's words, told once more as slowly as they stand, against the program.

Here nothing is kept of what a step hung on: each time, all is found anew from
the steps that are there.
"""

import random
import unittest

from seenby.sheet import Sheet, answer, answers, feeding_any
from tests.helper import BEGIN, KINDS, NAMED, all_of, apart, ask, do, flat, take


def read_by(step):
    return {0: (), 1: (), 2: "a", 3: "ab", 4: "ab", 5: "ab"}[step["kind"]]


def set_by(step):
    return {0: "a", 1: (), 2: "b", 3: "c", 4: "ab", 5: "b"}[step["kind"]]


def cells(step, names):
    return {step[name] for name in names}


def feeders(steps, cell, place):
    before = [n for n in range(place) if steps[n]["there"]]
    setting = [n for n in before if cell in cells(steps[n], set_by(steps[n]))]
    adding = [n for n in before if steps[n]["kind"] == 1 and steps[n]["a"] == cell]
    if not setting:
        return set(adding)
    return {setting[-1]} | {n for n in adding if n > setting[-1]}


def hung_on(steps, n):
    found = set()
    for cell in cells(steps[n], read_by(steps[n])):
        found |= feeders(steps, cell, n)
    return found


def hung_on_by_all(steps):
    return {m: hung_on(steps, m) for m in range(len(steps)) if steps[m]["there"]}


def hanging(steps, n):
    return {m for m, numbers in hung_on_by_all(steps).items() if n in numbers}


def hanging_and_so_on(steps, n):
    by_all = hung_on_by_all(steps)
    found = set()
    while True:
        more = {m for m, numbers in by_all.items() if n in numbers or numbers & found}
        if more == found:
            return found
        found = more


class Words:
    """The calls, as the document's words have them."""

    def __init__(self):
        self.steps = []

    def do(self, who, kind, a, b, c, v, mask):
        given = {"a": a, "b": b, "c": c, "v": v}
        if mask > 65535 or who > 15 or kind > 5:
            return -22
        for name in "abcv":
            if name not in NAMED[kind] and given[name] != 0:
                return -22
            if name in NAMED[kind] and name != "v" and given[name] > 31:
                return -22
        if len(self.steps) == 256:
            return -28
        given.update(who=who, kind=kind, mask=mask, there=True)
        self.steps.append(given)
        return len(self.steps) - 1

    def likewise(self, who, n):
        if n >= len(self.steps):
            return -2
        if self.steps[n]["who"] != who:
            return -1
        if not self.steps[n]["there"]:
            return -17
        return None

    def take(self, who, n):
        refusal = self.likewise(who, n)
        if refusal is not None:
            return refusal
        if hanging(self.steps, n):
            return -16
        self.steps[n]["there"] = False
        return 0

    def all_of(self, who, n):
        refusal = self.likewise(who, n)
        if refusal is not None:
            return refusal
        others = hanging_and_so_on(self.steps, n)
        if any(self.steps[m]["who"] != who for m in others):
            return -13
        for m in others | {n}:
            self.steps[m]["there"] = False
        return 1 + len(others)

    def answer(self, call):
        if call[0] == 0:
            self.steps = []
            return 0
        return (self.do, self.take, self.all_of)[call[0] - 1](*call[1:])


def some_step(chance, people, some_cells):
    kind = chance.choice(KINDS)
    numbers = {}
    for name in NAMED[kind]:
        numbers[name] = chance.randrange(3) if name == "v" else chance.randrange(some_cells)
    return do(chance.randrange(people), kind, mask=chance.randrange(65536), **numbers)


def somewhat_wrong(chance, call):
    wrong = list(call)
    wrong[chance.randrange(1, len(call))] = chance.choice((1, 6, 16, 32, 65536, 4294967295))
    return wrong


def some_call(chance, people, some_cells, steps):
    roll = chance.random()
    if roll < 0.55:
        return some_step(chance, people, some_cells)
    if roll < 0.60:
        return somewhat_wrong(chance, some_step(chance, people, some_cells))
    if roll < 0.605:
        return BEGIN
    call = take if roll < 0.85 else all_of
    return call(chance.randrange(steps + 1), who=chance.randrange(people))


def some_calls(seed):
    """Calls by few people on few cells, so that much hangs together."""
    chance = random.Random(seed)
    people = chance.choice((1, 2, 2, 3, 16))
    some_cells = chance.choice((1, 2, 4, 8, 32))
    length = chance.choice((10, 30, 60, 120))
    return [some_call(chance, people, some_cells, length // 2) for k in range(length)]


class AgainstTheWords(unittest.TestCase):

    def test_answered_as_the_words_have_it(self):
        seen = set()
        for seed in range(400):
            calls = some_calls(seed)
            words = Words()
            wanted = [words.answer(call) for call in calls]
            seen.update(wanted)
            with self.subTest(seed=seed):
                self.assertEqual(ask(*calls), wanted)
        # The rows are worth something only if each refusal comes up in them.
        self.assertLessEqual({-22, -2, -1, -17, -16, -13}, seen)

    def test_the_longest_row(self):
        chance = random.Random(7)
        steps = [some_step(chance, 2, 8) for k in range(257)]
        asked = [chance.choice((take, all_of))(chance.randrange(256), who=chance.randrange(2)) for k in range(142)]
        words = Words()
        self.assertEqual(ask(*steps, *asked), [words.answer(call) for call in steps + asked])

    def test_each_step_hangs_on_what_it_hung_on_when_it_was_done(self):
        for seed in range(100):
            sheet = Sheet()
            for call in some_calls(seed):
                answer(sheet, call[0], call[1:])
                for n, step in enumerate(sheet.steps):
                    if step.there:
                        self.assertEqual(step.hangs_on, feeding_any(sheet.steps, step.reads, n))


class WhatHolds(unittest.TestCase):

    def test_refused_calls_change_nothing(self):
        for seed in range(200):
            calls = some_calls(seed)
            given = ask(*calls)
            kept = [k for k in range(len(calls)) if given[k] >= 0]
            with self.subTest(seed=seed):
                self.assertEqual(ask(*[calls[k] for k in kept]), [given[k] for k in kept])

    def test_numbers_and_masks_of_steps_change_no_answer(self):
        for seed in range(200):
            chance = random.Random(seed)
            calls = some_calls(seed)
            others = [self.with_others(chance, call) for call in calls]
            with self.subTest(seed=seed):
                self.assertEqual(ask(*others), ask(*calls))

    def with_others(self, chance, call):
        if call[0] != 1 or call[2] not in (0, 1, 5) or call[7] > 65535:
            return call
        return call[:6] + [chance.randrange(2 ** 32), chance.randrange(65536)]

    def test_two_that_may_be_taken_back_may_be_so_in_either_order(self):
        for seed in range(60):
            chance = random.Random(seed)
            steps = [some_step(chance, 1, 4) for k in range(10)]
            free = [n for n in range(10) if ask(*steps, take(n))[-1] == 0]
            for one in free:
                for other in [n for n in free if n != one]:
                    rest = [take(n) for n in range(10)]
                    self.assertEqual(
                        ask(*steps, take(one), take(other), *rest),
                        ask(*steps, take(other), take(one), *rest),
                    )

    def test_the_answers_lie_one_behind_another(self):
        for seed in range(20):
            calls = [BEGIN] + some_calls(seed)
            self.assertEqual(len(apart(answers(flat(calls)))), len(calls))


if __name__ == "__main__":
    unittest.main()
