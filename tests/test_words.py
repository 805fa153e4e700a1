"""The document's words, told once more as slowly as they stand, against the program.

Here all is found anew each time from the steps that are there; what a step hung
on when it was done is kept for give alone, which asks for it.
"""

import random
import unittest

from seenby.sheet import Sheet, answer, answers, feeding_any
from tests.helper import (
    BEGIN, EVERYBODY, KINDS, NAMED, all_of, apart, do, flat, from_, give, read, seen, sheet_behind, take, told, view,
)


def read_by(step):
    return {0: (), 1: (), 2: "a", 3: "ab", 4: "ab", 5: "ab"}[step["kind"]]


def set_by(step):
    return {0: "a", 1: (), 2: "b", 3: "c", 4: "ab", 5: "b"}[step["kind"]]


def cells(step, names):
    return {step[name] for name in names}


def feeders(steps, cell, place):
    before = [n for n in range(place) if steps[n]["there"]]
    setting = [n for n in before if cell in cells(steps[n], set_by(steps[n]))]
    adding = [n for n in before if steps[n]["kind"] == 1 and steps[n]["a"] == cell]
    if not setting:
        return set(adding)
    return {setting[-1]} | {n for n in adding if n > setting[-1]}


def hung_on(steps, n):
    found = set()
    for cell in cells(steps[n], read_by(steps[n])):
        found |= feeders(steps, cell, n)
    return found


def hung_on_by_all(steps):
    return {m: hung_on(steps, m) for m in range(len(steps)) if steps[m]["there"]}


def hanging(steps, n):
    return {m for m, numbers in hung_on_by_all(steps).items() if n in numbers}


def hanging_and_so_on(steps, n):
    by_all = hung_on_by_all(steps)
    found = set()
    while True:
        more = {m for m, numbers in by_all.items() if n in numbers or numbers & found}
        if more == found:
            return found
        found = more


def sources(steps, cell):
    found = set()
    new = feeders(steps, cell, len(steps))
    while new:
        found |= new
        new = set().union(*[hung_on(steps, n) for n in new]) - found
    return found


def people(steps, cell):
    masks = [steps[n]["mask"] for n in sources(steps, cell)]
    return {who for who in range(16) if all(mask >> who & 1 for mask in masks)}


def values(steps, place):
    """What's in the cells at the place among the steps that are there."""
    held = {cell: 0 for cell in range(32)}
    for step in steps[:place]:
        if step["there"]:
            held.update(set_to(step, held))
    return held


def set_to(step, held):
    a, b, c, v = (step[name] for name in "abcv")
    return [
        lambda: {a: v},
        lambda: {a: (held[a] + v) % 2 ** 32},
        lambda: {b: held[a]},
        lambda: {c: (held[a] + held[b]) % 2 ** 32},
        lambda: {a: held[b], b: held[a]},
        lambda: {b: v if held[a] == 0 else held[b]},
    ][step["kind"]]()


def values_read(steps, n):
    held = values(steps, n)
    return [held[steps[n][name]] for name in read_by(steps[n])]


class Words:
    """The calls, as the document's words have them."""

    def __init__(self):
        self.steps = []

    def do(self, who, kind, a, b, c, v, mask):
        given = {"a": a, "b": b, "c": c, "v": v}
        if mask > 65535 or who > 15 or kind > 5:
            return -22
        for name in "abcv":
            if name not in NAMED[kind] and given[name] != 0:
                return -22
            if name in NAMED[kind] and name != "v" and given[name] > 31:
                return -22
        if len(self.steps) == 256:
            return -28
        given.update(who=who, kind=kind, mask=mask, there=True)
        self.steps.append(given)
        n = len(self.steps) - 1
        given["hung_on"] = hung_on(self.steps, n)
        given["values_read"] = values_read(self.steps, n)
        return n

    def likewise(self, who, n, there):
        if n >= len(self.steps):
            return -2
        if self.steps[n]["who"] != who:
            return -1
        if self.steps[n]["there"] != there:
            return -17
        return None

    def take(self, who, n):
        refusal = self.likewise(who, n, True)
        if refusal is not None:
            return refusal
        if hanging(self.steps, n):
            return -16
        self.steps[n]["there"] = False
        return 0

    def all_of(self, who, n):
        refusal = self.likewise(who, n, True)
        if refusal is not None:
            return refusal
        others = hanging_and_so_on(self.steps, n)
        if any(self.steps[m]["who"] != who for m in others):
            return -13
        for m in others | {n}:
            self.steps[m]["there"] = False
        return 1 + len(others)

    def give(self, who, n):
        refusal = self.likewise(who, n, False)
        if refusal is not None:
            return refusal
        self.steps[n]["there"] = True
        otherwise = hung_on(self.steps, n) != self.steps[n]["hung_on"]
        if otherwise or hanging(self.steps, n):
            self.steps[n]["there"] = False
            return -11 if otherwise else -16
        return 0

    def read(self, who, c):
        if who > 15 or c > 31:
            return -22
        if who not in people(self.steps, c):
            return -13
        return [0, values(self.steps, len(self.steps))[c]]

    def seen(self, c):
        return -22 if c > 31 else [0, sum(1 << who for who in people(self.steps, c))]

    def from_(self, c):
        if c > 31:
            return -22
        numbers = sorted(sources(self.steps, c))
        return [len(numbers)] + numbers

    def begin(self):
        self.steps = []
        return 0

    def answer(self, call):
        calls = (self.begin, self.do, self.take, self.all_of, self.give, self.read, self.seen, self.from_)
        given = calls[call[0]](*call[1:])
        return given if isinstance(given, list) else [given]


def some_mask(chance):
    """Mostly one that lets many see, so that there is something to read."""
    few = (1 << chance.randrange(16)) | (1 << chance.randrange(4))
    return chance.choice((EVERYBODY, EVERYBODY, EVERYBODY - few, chance.randrange(65536), few, 0))


def some_v(chance):
    return chance.choice((0, 0, 1, 2, 4294967295, chance.randrange(2 ** 32)))


def some_step(chance, people, some_cells):
    kind = chance.choice(KINDS)
    numbers = {}
    for name in NAMED[kind]:
        numbers[name] = some_v(chance) if name == "v" else chance.randrange(some_cells)
    return do(chance.randrange(people), kind, mask=some_mask(chance), **numbers)


def somewhat_wrong(chance, call):
    wrong = list(call)
    wrong[chance.randrange(1, len(call))] = chance.choice((1, 6, 16, 32, 65536, 4294967295))
    return wrong


def some_question(chance, some_cells):
    call = chance.choice((read, read, seen, from_))
    question = call(chance.randrange(some_cells))
    if call is read:
        question[1] = chance.choice((0, 1, chance.randrange(16)))
    return question if chance.random() < 0.9 else somewhat_wrong(chance, question)


def some_call(chance, people, some_cells, steps):
    roll = chance.random()
    if roll < 0.40:
        return some_step(chance, people, some_cells)
    if roll < 0.44:
        return somewhat_wrong(chance, some_step(chance, people, some_cells))
    if roll < 0.445:
        return BEGIN
    if roll < 0.60:
        return some_question(chance, some_cells)
    call = chance.choice((take, take, all_of, give, give, give))
    return call(chance.randrange(steps + 1), who=chance.randrange(people))


def some_calls(seed):
    """Calls by few people on few cells, so that much hangs together."""
    chance = random.Random(seed)
    people = chance.choice((1, 1, 2, 2, 3, 16))
    some_cells = chance.choice((1, 2, 4, 8, 32))
    length = chance.choice((10, 30, 60, 120))
    return [some_call(chance, people, some_cells, length // 3) for k in range(length)]


class AgainstTheWords(unittest.TestCase):

    def test_answered_as_the_words_have_it(self):
        met = set()
        for seed in range(400):
            calls = some_calls(seed)
            words = Words()
            wanted = [words.answer(call) for call in calls]
            met.update((call[0], given[0]) for call, given in zip(calls, wanted) if given[0] <= 0)
            with self.subTest(seed=seed):
                self.assertEqual(told(*calls), wanted)
        # The rows are worth something only if each refusal of each call comes up in them.
        self.assertLessEqual({
            (1, -22), (2, -2), (2, -1), (2, -17), (2, -16), (3, -2), (3, -1), (3, -17), (3, -13),
            (4, 0), (4, -2), (4, -1), (4, -17), (4, -11), (4, -16), (5, 0), (5, -22), (5, -13), (6, -22), (7, -22),
        }, met)

    def test_every_cell_to_everybody(self):
        for seed in range(0, 400, 20):
            calls = some_calls(seed)
            asked = [call for c in range(8) for call in [read(c, who=who) for who in range(16)] + [seen(c), from_(c)]]
            words = Words()
            wanted = [words.answer(call) for call in calls + asked]
            with self.subTest(seed=seed):
                self.assertEqual(told(*calls, *asked), wanted)

    def test_the_longest_row(self):
        chance = random.Random(7)
        steps = [some_step(chance, 2, 8) for k in range(257)]
        asked = [some_question(chance, 8) if k % 3 == 0 else
                 chance.choice((take, all_of, give))(chance.randrange(256), who=chance.randrange(2)) for k in range(142)]
        words = Words()
        self.assertEqual(told(*steps, *asked), [words.answer(call) for call in steps + asked])

    def test_each_step_hangs_on_what_it_hung_on_when_it_was_done(self):
        for seed in range(100):
            sheet = Sheet()
            for call in some_calls(seed):
                answer(sheet, call[0], call[1:])
                for n, step in enumerate(sheet.steps):
                    if step.there:
                        self.assertEqual(step.hangs_on, feeding_any(sheet.steps, step.reads, n))


class WhatHolds(unittest.TestCase):

    def test_each_step_hangs_on_and_reads_what_it_did_then(self):
        for seed in range(60):
            sheet = Sheet()
            words = Words()
            for call in some_calls(seed):
                answer(sheet, call[0], call[1:])
                if call[0] < 2:
                    words.answer(call)
                # What the program lets be taken back and given back must keep this.
                for n, step in enumerate(words.steps):
                    step["there"] = sheet.steps[n].there
                for n, step in enumerate(words.steps):
                    if step["there"]:
                        self.assertEqual(hung_on(words.steps, n), step["hung_on"])
                        self.assertEqual(values_read(words.steps, n), step["values_read"])

    def test_refused_calls_change_nothing(self):
        for seed in range(200):
            calls = some_calls(seed)
            given = told(*calls)
            kept = [k for k in range(len(calls)) if given[k][0] >= 0]
            with self.subTest(seed=seed):
                self.assertEqual(told(*[calls[k] for k in kept]), [given[k] for k in kept])
                self.assertEqual(view(*[calls[k] for k in kept]), view(*calls))

    def test_questions_change_nothing(self):
        for seed in range(200):
            calls = some_calls(seed)
            given = told(*calls)
            kept = [k for k in range(len(calls)) if calls[k][0] < 5]
            with self.subTest(seed=seed):
                self.assertEqual(told(*[calls[k] for k in kept]), [given[k] for k in kept])

    def test_nobody_reads_what_hangs_on_a_number_that_they_may_not_see(self):
        changed = 0
        for seed in range(200):
            chance = random.Random(seed)
            calls = some_calls(seed)
            for who in (0, 1, chance.randrange(2, 16)):
                others = [self.with_other_v(chance, call, who) for call in calls]
                changed += told(*others) != told(*calls)
                mine = [k for k, call in enumerate(calls) if call[0] != 5 or call[1] == who]
                reads = [read(c, who=who) for c in range(32)]
                rest = [seen(c) for c in range(32)] + [from_(c) for c in range(32)]
                with self.subTest(seed=seed, who=who):
                    one, two = told(*calls, *reads, *rest), told(*others, *reads, *rest)
                    self.assertEqual([two[k] for k in mine], [one[k] for k in mine])
                    self.assertEqual(two[len(calls):], one[len(calls):])
        # Somebody else's reads must tell the two rows apart now and then, or nothing was tried.
        self.assertGreater(changed, 20)

    def with_other_v(self, chance, call, who):
        if call[0] != 1 or call[2] not in (0, 1, 5) or call[7] > 65535 or call[7] >> who & 1:
            return call
        return call[:6] + [some_v(chance), call[7]]

    def test_masks_change_only_who_reads_and_sees(self):
        for seed in range(200):
            chance = random.Random(seed)
            calls = some_calls(seed)
            others = [self.with_other_mask(chance, call) for call in calls]
            kept = [k for k, call in enumerate(calls) if call[0] not in (5, 6)]
            with self.subTest(seed=seed):
                one, two = told(*calls), told(*others)
                self.assertEqual([two[k] for k in kept], [one[k] for k in kept])

    def with_other_mask(self, chance, call):
        if call[0] != 1 or call[7] > 65535:
            return call
        return call[:7] + [chance.randrange(65536)]

    def test_who_may_see_a_cell_behind_a_step_that_set_it(self):
        for seed in range(100):
            chance = random.Random(seed)
            calls = some_calls(seed)
            step = some_step(chance, 1, 4)
            named = dict(zip("abc", step[3:6]), kind=step[2])
            count = len(calls)
            given = told(*calls, *[seen(c) for c in range(32)], step, *[seen(c) for c in range(32)])
            before = [numbers[1] for numbers in given[count:count + 32]]
            behind = [numbers[1] for numbers in given[count + 33:]]
            wanted = step[7]
            for cell in cells(named, read_by(named)):
                wanted &= before[cell]
            for cell in cells(named, set_by(named)):
                with self.subTest(seed=seed, cell=cell):
                    self.assertEqual(behind[cell], wanted)

    def test_who_may_see_all_steps_that_are_there_may_see_every_cell(self):
        for seed in range(200):
            calls = some_calls(seed)
            people_of_all = EVERYBODY
            for step in sheet_behind(*calls).steps:
                if step.there:
                    people_of_all &= step.mask
            given = told(*calls, *[seen(c) for c in range(32)])[len(calls):]
            with self.subTest(seed=seed):
                self.assertEqual([numbers[1] & people_of_all for numbers in given], [people_of_all] * 32)

    def test_what_from_tells_is_enough(self):
        for seed in range(100):
            calls = some_calls(seed) + [from_(c) for c in range(8)]
            contents = view(*calls)[1]
            # Behind the last begin the steps are numbered by the calls that were not refused.
            given = told(*calls)
            dos = []
            for call, numbers in zip(calls, given):
                if call == BEGIN:
                    dos = []
                elif call[0] == 1 and numbers[0] >= 0:
                    dos.append(call)
            for cell in range(8):
                alone = [dos[n] for n in given[cell - 8][1:]]
                with self.subTest(seed=seed, cell=cell):
                    self.assertEqual(view(*alone)[1][cell], contents[cell])

    def test_a_step_taken_back_and_given_back_leaves_all_as_it_was(self):
        for seed in range(60):
            calls = some_calls(seed)
            for n, step in enumerate(sheet_behind(*calls).steps):
                if told(*calls, take(n, who=step.who))[-1] == [0]:
                    back = calls + [take(n, who=step.who), give(n, who=step.who)]
                    with self.subTest(seed=seed, n=n):
                        self.assertEqual(told(*back)[-1], [0])
                        self.assertEqual(view(*back), view(*calls))

    def test_two_that_may_be_taken_back_may_be_so_in_either_order(self):
        for seed in range(60):
            chance = random.Random(seed)
            steps = [some_step(chance, 1, 4) for k in range(10)]
            free = [n for n in range(10) if told(*steps, take(n))[-1] == [0]]
            for one in free:
                for other in [n for n in free if n > one]:
                    rest = [take(n) for n in range(10)]
                    either = (*steps, take(one), take(other)), (*steps, take(other), take(one))
                    self.assertEqual(told(*either[0])[10:], [[0], [0]])
                    self.assertEqual(told(*either[0], *rest), told(*either[1], *rest))
                    self.assertEqual(view(*either[0]), view(*either[1]))

    def test_with_all_no_more_go_than_must(self):
        for seed in range(100):
            chance = random.Random(seed)
            steps = [some_step(chance, 1, 4) for k in range(12)]
            n = chance.randrange(12)
            gone = [m for m, there in enumerate(view(*steps, all_of(n))[2]) if not there]
            self.assertEqual(told(*steps, all_of(n))[-1], [len(gone)])
            # From the last to the first each may be taken back alone, and each but the first was in its way.
            self.assertEqual(told(*steps, *[take(m) for m in reversed(gone)])[12:], [[0]] * len(gone))
            for m in gone[1:]:
                others = [take(k) for k in reversed(gone) if k != m]
                self.assertIn([-16], told(*steps, *others)[12:])

    def test_the_answers_lie_one_behind_another(self):
        for seed in range(20):
            calls = [BEGIN] + some_calls(seed)
            self.assertEqual(len(apart(answers(flat(calls)))), len(calls))

    def test_the_same_list_twice_is_answered_alike_and_stays_the_same(self):
        for seed in range(50):
            calls = flat([BEGIN] + some_calls(seed))
            handed = list(calls)
            with self.subTest(seed=seed):
                self.assertEqual(answers(handed), answers(handed))
                self.assertEqual(handed, calls)


if __name__ == "__main__":
    unittest.main()
