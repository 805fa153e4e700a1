"""take: 0, or -2, -1, -17, -16."""

import unittest

from tests.helper import (
    GREATEST, add, all_of, ask, copy, exchange, if_nought, last, put, take, total,
)


class Taken(unittest.TestCase):

    def test_a_step_that_nothing_hangs_on(self):
        self.assertEqual(ask(put(0), take(0)), [0, 0])

    def test_an_older_step_alone_while_others_stay(self):
        self.assertEqual(ask(put(0), put(1), put(2), take(1), take(0), take(2)), [0, 1, 2, 0, 0, 0])

    def test_its_owner_takes_it(self):
        for who in range(16):
            with self.subTest(who=who):
                self.assertEqual(ask(put(0, who=who), take(0, who=who)), [0, 0])

    def test_what_was_hung_on_once_what_hung_is_gone(self):
        self.assertEqual(ask(put(0), copy(0, 1), take(0), take(1), take(0)), [0, 1, -16, 0, 0])

    def test_a_step_taken_back_feeds_nothing(self):
        calls = (put(0), put(0), take(1), copy(0, 1), take(0))
        self.assertEqual(ask(*calls), [0, 1, 0, 2, -16])

    def test_an_add_taken_back_feeds_nothing(self):
        calls = (put(0), add(0), take(1), copy(0, 1), all_of(0))
        self.assertEqual(ask(*calls), [0, 1, 0, 2, 2])


class Refused(unittest.TestCase):

    def test_no_such_step(self):
        self.assertEqual(ask(take(0), put(0), take(1), take(256), take(GREATEST)), [-2, 0, -2, -2, -2])

    def test_somebody_elses(self):
        self.assertEqual(ask(put(0, who=1), take(0), take(0, who=2), take(0, who=15)), [0, -1, -1, -1])

    def test_nobody_above_15_has_a_step(self):
        self.assertEqual(ask(put(0), take(0, who=16), take(0, who=GREATEST)), [0, -1, -1])

    def test_taken_back_already(self):
        self.assertEqual(ask(put(0), take(0), take(0)), [0, 0, -17])

    def test_taken_back_with_all(self):
        self.assertEqual(ask(put(0), copy(0, 1), all_of(0), take(0), take(1)), [0, 1, 2, -17, -17])

    def test_a_step_that_is_there_hangs_on_it(self):
        for reader in (copy(0, 1), total(0, 1, 2), total(1, 0, 2), exchange(0, 1), exchange(1, 0),
                       if_nought(0, 1), if_nought(1, 0)):
            for fed_by in (put(0), add(0)):
                with self.subTest(reader=reader, fed_by=fed_by):
                    self.assertEqual(ask(fed_by, reader, take(0)), [0, 1, -16])

    def test_each_setter_is_hung_on(self):
        for setter in (put(5), copy(0, 5), total(0, 1, 5), exchange(0, 5), exchange(5, 0),
                       if_nought(0, 5)):
            with self.subTest(setter=setter):
                self.assertEqual(ask(setter, copy(5, 6), take(0)), [0, 1, -16])

    def test_somebody_elses_step_that_hangs_refuses_it_too(self):
        self.assertEqual(ask(put(0), copy(0, 1, who=9), take(0)), [0, 1, -16])


class NothingHangs(unittest.TestCase):

    def test_steps_that_read_nothing(self):
        for later in (put(0), add(0)):
            with self.subTest(later=later):
                self.assertEqual(ask(put(0), later, take(0)), [0, 1, 0])

    def test_a_cell_that_is_set_only_is_not_read(self):
        self.assertEqual(ask(put(2), total(0, 1, 2), take(0)), [0, 1, 0])
        self.assertEqual(ask(put(1), copy(0, 1), take(0)), [0, 1, 0])

    def test_a_cell_that_is_read_only_is_not_set(self):
        for reader in (copy(0, 1), total(0, 1, 2), total(1, 0, 2), if_nought(0, 1)):
            with self.subTest(reader=reader):
                self.assertEqual(ask(reader, copy(0, 3), take(0)), [0, 1, 0])

    def test_steps_on_other_cells(self):
        self.assertEqual(ask(put(0), copy(1, 2), take(0)), [0, 1, 0])

    def test_a_reader_ahead_of_the_step(self):
        self.assertEqual(ask(copy(0, 1), put(0), add(0), take(1), take(2)), [0, 1, 2, 0, 0])


class TheOrderOfRefusals(unittest.TestCase):

    def test_no_such_step_ahead_of_all_others(self):
        self.assertEqual(last(put(0), take(1, who=16)), -2)
        self.assertEqual(last(take(GREATEST, who=GREATEST)), -2)

    def test_somebody_elses_ahead_of_taken_back(self):
        self.assertEqual(ask(put(0), take(0), take(0, who=1)), [0, 0, -1])

    def test_somebody_elses_ahead_of_hung_on(self):
        self.assertEqual(ask(put(0), copy(0, 1), take(0, who=1)), [0, 1, -1])

    def test_taken_back_ahead_of_hung_on(self):
        # A reader of the cell stands behind the step, but can't hang on it any more.
        self.assertEqual(ask(put(0), take(0), copy(0, 1), take(0)), [0, 0, 1, -17])


class RefusalsChangeNothing(unittest.TestCase):

    def test_no_such_step_does_not_make_one(self):
        self.assertEqual(ask(take(0), put(0), take(0)), [-2, 0, 0])

    def test_somebody_elses_stays(self):
        self.assertEqual(ask(put(0), take(0, who=1), copy(0, 1), take(0)), [0, -1, 1, -16])

    def test_taken_back_stays_so(self):
        self.assertEqual(ask(put(0), take(0), take(0), take(0), copy(0, 1), take(0)), [0, 0, -17, -17, 1, -17])

    def test_hung_on_stays(self):
        self.assertEqual(ask(put(0), copy(0, 1), take(0), take(0), copy(0, 2), all_of(0)), [0, 1, -16, -16, 2, 3])


if __name__ == "__main__":
    unittest.main()
