"""do: a step's number, or -22, -28."""

import unittest

from seenby.sheet import Sheet
from tests.helper import (
    EVERYBODY, GREATEST, KINDS, NAMED, PUT, add, all_of, ask, copy, do, exchange,
    if_nought, last, put, take, total,
)

# Whatever a kind names, it may name these.
GOOD = {"a": 1, "b": 2, "c": 3, "v": 4}


def step(kind, **changed):
    """A do of that kind with all that it names, but for what is changed."""
    numbers = {name: GOOD[name] for name in NAMED[kind]}
    numbers["who"] = 0
    numbers.update(changed)
    who = numbers.pop("who")
    return do(who, kind, **numbers)


def cells_named(kind):
    return NAMED[kind].replace("v", "")


def not_named(kind):
    return [name for name in "abcv" if name not in NAMED[kind]]


class Numbers(unittest.TestCase):

    def test_each_kind_is_done(self):
        calls = (put(0), add(0), copy(0, 1), total(0, 1, 2), exchange(0, 1), if_nought(0, 1))
        self.assertEqual(ask(*calls), [0, 1, 2, 3, 4, 5])

    def test_each_kind_alone_is_number_0(self):
        for kind in KINDS:
            with self.subTest(kind=kind):
                self.assertEqual(ask(step(kind)), [0])

    def test_noughts_alone_are_a_step_of_each_kind(self):
        for kind in KINDS:
            with self.subTest(kind=kind):
                self.assertEqual(ask(do(0, kind, mask=0)), [0])

    def test_numbers_go_on_behind_a_step_taken_back(self):
        self.assertEqual(ask(put(0), take(0), put(0), take(1), put(0)), [0, 0, 1, 0, 2])

    def test_everybody_may_do_steps(self):
        for who in range(16):
            with self.subTest(who=who):
                self.assertEqual(ask(put(0, who=who)), [0])


class WrongNumbers(unittest.TestCase):

    def test_who_is_15_at_most(self):
        for kind in KINDS:
            with self.subTest(kind=kind):
                self.assertEqual(ask(step(kind, who=15)), [0])
                self.assertEqual(ask(step(kind, who=16)), [-22])
                self.assertEqual(ask(step(kind, who=GREATEST)), [-22])

    def test_kind_is_5_at_most(self):
        self.assertEqual(ask(do(0, 5)), [0])
        self.assertEqual(ask(do(0, 6)), [-22])
        self.assertEqual(ask(do(0, GREATEST)), [-22])

    def test_a_cell_that_is_named_is_31_at_most(self):
        for kind in KINDS:
            for name in cells_named(kind):
                with self.subTest(kind=kind, name=name):
                    self.assertEqual(ask(step(kind, **{name: 31})), [0])
                    self.assertEqual(ask(step(kind, **{name: 32})), [-22])
                    self.assertEqual(ask(step(kind, **{name: GREATEST})), [-22])

    def test_what_is_not_named_is_0(self):
        for kind in KINDS:
            for name in not_named(kind):
                with self.subTest(kind=kind, name=name):
                    self.assertEqual(ask(step(kind, **{name: 0})), [0])
                    self.assertEqual(ask(step(kind, **{name: 1})), [-22])
                    self.assertEqual(ask(step(kind, **{name: GREATEST})), [-22])

    def test_v_that_is_named_may_be_any(self):
        for kind in KINDS:
            if "v" in NAMED[kind]:
                with self.subTest(kind=kind):
                    self.assertEqual(ask(step(kind, v=0)), [0])
                    self.assertEqual(ask(step(kind, v=GREATEST)), [0])

    def test_mask_is_65535_at_most(self):
        for kind in KINDS:
            with self.subTest(kind=kind):
                self.assertEqual(ask(step(kind, mask=0)), [0])
                self.assertEqual(ask(step(kind, mask=65535)), [0])
                self.assertEqual(ask(step(kind, mask=65536)), [-22])
                self.assertEqual(ask(step(kind, mask=GREATEST)), [-22])

    def test_all_wrong_at_once(self):
        self.assertEqual(ask([1] + [GREATEST] * 7), [-22])

    def test_a_refused_do_makes_no_step(self):
        refused = (do(16, PUT), do(0, 6), put(32), do(0, PUT, b=1), put(0, mask=65536))
        for call in refused:
            with self.subTest(call=call):
                self.assertEqual(ask(call, take(0), put(0), take(1)), [-22, -2, 0, -2])

    def test_a_refused_do_feeds_and_reads_nothing(self):
        calls = (put(0), put(0, mask=65536), copy(0, 1), copy(1, 2, who=16), take(1), take(0))
        self.assertEqual(ask(*calls), [0, -22, 1, -22, 0, 0])


class NoRoom(unittest.TestCase):

    def test_256_steps_and_one_more(self):
        given = ask(*[put(k % 32) for k in range(257)])
        self.assertEqual(given, list(range(256)) + [-28])

    def test_256_steps_of_each_kind(self):
        for kind in KINDS:
            with self.subTest(kind=kind):
                given = ask(*[step(kind)] * 258)
                self.assertEqual(given, list(range(256)) + [-28, -28])

    def test_wrong_numbers_are_told_ahead_of_no_room(self):
        steps = [put(0)] * 256
        wrong = (do(16, PUT), do(0, 6), put(32), do(0, PUT, c=1), put(0, mask=65536))
        self.assertEqual(ask(*steps, *wrong, put(0))[256:], [-22] * 5 + [-28])

    def test_steps_taken_back_were_done_too(self):
        steps = [put(0)] * 256
        self.assertEqual(ask(*steps, take(0), take(255), put(0))[256:], [0, 0, -28])

    def test_refused_ones_were_not_done(self):
        given = ask(*[put(32)] * 50, *[put(0)] * 257)
        self.assertEqual(given, [-22] * 50 + list(range(256)) + [-28])

    def test_a_do_without_room_changes_nothing(self):
        steps = [put(0)] * 256
        calls = (copy(0, 1), take(256), take(255), all_of(255))
        self.assertEqual(ask(*steps, *calls)[256:], [-28, -2, 0, -17])


class Mask(unittest.TestCase):

    def test_the_step_may_be_seen_by_whom_mask_tells(self):
        for mask in (0, 1, 32768, 43690, EVERYBODY):
            with self.subTest(mask=mask):
                sheet = Sheet()
                self.assertEqual(sheet.do(3, PUT, [0, 0, 0], 9, mask), 0)
                self.assertEqual(sheet.steps[0].mask, mask)

    def test_who_does_a_step_need_not_see_it(self):
        self.assertEqual(ask(put(0, who=3, mask=0), take(0, who=3)), [0, 0])

    def test_a_hidden_step_is_hung_on_like_any(self):
        for mask in (0, 1, EVERYBODY):
            with self.subTest(mask=mask):
                self.assertEqual(last(put(0, mask=mask), copy(0, 1, mask=mask), take(0)), -16)


if __name__ == "__main__":
    unittest.main()
