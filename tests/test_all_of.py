"""all: how many were taken back, or -2, -1, -17, -13."""

import unittest

from tests.helper import (
    GREATEST, add, all_of, ask, copy, exchange, if_nought, last, put, take, total,
)


class TakenBack(unittest.TestCase):

    def test_a_step_that_nothing_hangs_on(self):
        self.assertEqual(ask(put(0), all_of(0), take(0)), [0, 1, -17])

    def test_by_one_step(self):
        self.assertEqual(ask(put(0), copy(0, 1), all_of(0), take(0), take(1)), [0, 1, 2, -17, -17])

    def test_through_several(self):
        calls = (put(0), copy(0, 1), total(1, 1, 2), exchange(2, 3), if_nought(3, 4))
        self.assertEqual(last(*calls, all_of(0)), 5)
        self.assertEqual(last(*calls, all_of(2)), 3)
        self.assertEqual(last(*calls, all_of(4)), 1)

    def test_a_step_that_hangs_by_two_ways_goes_once(self):
        self.assertEqual(last(put(0), copy(0, 1), copy(0, 2), total(1, 2, 3), all_of(0)), 4)

    def test_256_steps_each_on_the_one_before(self):
        given = ask(put(0), *[total(0, 0, 0)] * 255, all_of(1), all_of(0))
        self.assertEqual(given[256:], [255, 1])

    def test_256_steps_all_on_one(self):
        given = ask(put(0), *[copy(0, 1)] * 255, all_of(0), take(255))
        self.assertEqual(given[256:], [256, -17])

    def test_each_person_their_own(self):
        for who in range(16):
            with self.subTest(who=who):
                self.assertEqual(ask(put(0, who=who), copy(0, 1, who=who), all_of(0, who=who)), [0, 1, 2])


class NoMoreThanMust(unittest.TestCase):

    def test_what_the_step_hangs_on_stays(self):
        self.assertEqual(ask(put(0), copy(0, 1), copy(1, 2), all_of(1), take(0)), [0, 1, 2, 2, 0])

    def test_steps_beside_it_stay(self):
        calls = (put(0), put(1), copy(0, 2), copy(1, 3), all_of(0), all_of(1))
        self.assertEqual(ask(*calls)[4:], [2, 2])

    def test_adds_to_the_cell_stay(self):
        self.assertEqual(ask(put(0), add(0), copy(0, 1), all_of(0), take(1), take(2)), [0, 1, 2, 2, 0, -17])

    def test_a_put_that_cuts_the_way_stays_with_what_hangs_on_it(self):
        calls = (put(0), copy(0, 1), put(1), copy(1, 2), all_of(0), take(2), all_of(2))
        self.assertEqual(ask(*calls)[4:], [2, -16, 2])

    def test_what_was_taken_back_is_not_counted(self):
        self.assertEqual(ask(put(0), copy(0, 1), copy(0, 2), take(1), all_of(0)), [0, 1, 2, 0, 2])

    def test_somebody_elses_that_does_not_hang_is_no_hindrance(self):
        calls = (put(0), put(1, who=5), copy(1, 2, who=5), copy(0, 3), all_of(0), take(2, who=5))
        self.assertEqual(ask(*calls)[4:], [2, 0])

    def test_somebody_elses_that_it_hangs_on_is_no_hindrance(self):
        self.assertEqual(ask(put(0, who=5), copy(0, 1), all_of(1), take(0, who=5)), [0, 1, 1, 0])


class Refused(unittest.TestCase):

    def test_no_such_step(self):
        self.assertEqual(ask(all_of(0), put(0), all_of(1), all_of(256), all_of(GREATEST)), [-2, 0, -2, -2, -2])

    def test_somebody_elses(self):
        self.assertEqual(ask(put(0, who=1), all_of(0), all_of(0, who=15)), [0, -1, -1])

    def test_nobody_above_15_has_a_step(self):
        self.assertEqual(ask(put(0), all_of(0, who=16), all_of(0, who=GREATEST)), [0, -1, -1])

    def test_taken_back_already(self):
        self.assertEqual(ask(put(0), all_of(0), all_of(0)), [0, 1, -17])
        self.assertEqual(ask(put(0), take(0), all_of(0)), [0, 0, -17])

    def test_what_hangs_is_somebody_elses(self):
        self.assertEqual(ask(put(0), copy(0, 1, who=1), all_of(0)), [0, 1, -13])

    def test_what_hangs_only_by_way_of_another_is_somebody_elses(self):
        self.assertEqual(last(put(0), copy(0, 1), copy(1, 2, who=1), all_of(0)), -13)
        self.assertEqual(last(put(0), copy(0, 1), copy(1, 2), copy(2, 3, who=1), all_of(0)), -13)

    def test_one_of_many_is_somebody_elses(self):
        for others in range(1, 6):
            with self.subTest(others=others):
                owners = [1 if k == others else 0 for k in range(6)]
                calls = [put(0)] + [copy(k, k + 1, who=owners[k + 1]) for k in range(5)]
                self.assertEqual(last(*calls, all_of(0)), -13)

    def test_somebody_elses_that_was_taken_back_is_no_hindrance(self):
        self.assertEqual(ask(put(0), copy(0, 1, who=1), take(1, who=1), all_of(0)), [0, 1, 0, 1])


class TheOrderOfRefusals(unittest.TestCase):

    def test_no_such_step_ahead_of_somebody_elses(self):
        self.assertEqual(last(put(0), all_of(1, who=16)), -2)
        self.assertEqual(last(all_of(GREATEST, who=GREATEST)), -2)

    def test_somebody_elses_ahead_of_taken_back(self):
        self.assertEqual(ask(put(0), take(0), all_of(0, who=1)), [0, 0, -1])

    def test_somebody_elses_ahead_of_hung_on(self):
        self.assertEqual(ask(put(0), copy(0, 1, who=1), all_of(0, who=2)), [0, 1, -1])
        self.assertEqual(ask(put(0), copy(0, 1, who=1), all_of(0, who=1)), [0, 1, -1])

    def test_taken_back_ahead_of_hung_on(self):
        # Somebody else's reader stands behind the step, but can't hang on it any more.
        self.assertEqual(ask(put(0), take(0), copy(0, 1, who=1), all_of(0)), [0, 0, 1, -17])


class RefusalsChangeNothing(unittest.TestCase):

    def test_none_goes_if_one_is_somebody_elses(self):
        calls = (put(0), copy(0, 1), copy(1, 2, who=1), all_of(0))
        self.assertEqual(ask(*calls, take(0), take(1), take(2, who=1))[3:], [-13, -16, -16, 0])

    def test_none_goes_whichever_way_it_is_refused(self):
        for call, refusal in ((all_of(2), -2), (all_of(0, who=1), -1)):
            with self.subTest(call=call):
                calls = (put(0), copy(0, 1), call, take(0), all_of(0))
                self.assertEqual(ask(*calls), [0, 1, refusal, -16, 2])

    def test_taken_back_stays_so(self):
        self.assertEqual(ask(put(0), all_of(0), all_of(0), copy(0, 1), take(0)), [0, 1, -17, 1, -17])


if __name__ == "__main__":
    unittest.main()
