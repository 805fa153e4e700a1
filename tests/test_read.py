"""read: 0 and the cell's value, or -22, -13."""

import unittest

from tests.helper import (
    BEGIN, EVERYBODY, GREATEST, add, all_of, ask, copy, exchange, give, if_nought, last_told, put, read, seen, take,
    told, total, view,
)


def values(*calls, cells=4):
    """What's in the first cells behind the calls, read by person 0."""
    given = told(*calls, *[read(c) for c in range(cells)])[len(calls):]
    for numbers in given:
        if len(numbers) != 2 or numbers[0] != 0:
            raise AssertionError(f"not read: {numbers}")
    return [numbers[1] for numbers in given]


class Values(unittest.TestCase):

    def test_noughts_at_first(self):
        self.assertEqual(values(cells=32), [0] * 32)

    def test_put(self):
        self.assertEqual(values(put(1, v=9)), [0, 9, 0, 0])
        self.assertEqual(values(put(1, v=9), put(1, v=4)), [0, 4, 0, 0])
        self.assertEqual(values(put(1, v=9), put(1, v=0)), [0, 0, 0, 0])

    def test_add(self):
        self.assertEqual(values(add(1, v=9)), [0, 9, 0, 0])
        self.assertEqual(values(put(1, v=9), add(1, v=4), add(2, v=5)), [0, 13, 5, 0])

    def test_copy(self):
        self.assertEqual(values(put(1, v=9), put(2, v=4), copy(1, 2)), [0, 9, 9, 0])
        self.assertEqual(values(put(2, v=4), copy(1, 2)), [0, 0, 0, 0])
        self.assertEqual(values(put(1, v=9), copy(1, 1)), [0, 9, 0, 0])

    def test_sum(self):
        self.assertEqual(values(put(0, v=9), put(1, v=4), put(2, v=100), total(0, 1, 2)), [9, 4, 13, 0])
        self.assertEqual(values(put(0, v=9), put(1, v=4), total(0, 1, 0)), [13, 4, 0, 0])
        self.assertEqual(values(put(0, v=9), put(1, v=4), total(0, 1, 1)), [9, 13, 0, 0])
        self.assertEqual(values(put(0, v=9), total(0, 0, 1)), [9, 18, 0, 0])

    def test_sum_of_a_cell_with_itself_into_itself(self):
        self.assertEqual(values(put(0, v=9), total(0, 0, 0)), [18, 0, 0, 0])
        self.assertEqual(values(put(0, v=1), *[total(0, 0, 0)] * 31), [2 ** 31, 0, 0, 0])
        self.assertEqual(values(put(0, v=1), *[total(0, 0, 0)] * 32), [0, 0, 0, 0])

    def test_exchange(self):
        self.assertEqual(values(put(0, v=9), put(1, v=4), exchange(0, 1)), [4, 9, 0, 0])
        self.assertEqual(values(put(0, v=9), put(1, v=4), exchange(1, 0)), [4, 9, 0, 0])
        self.assertEqual(values(put(0, v=9), put(1, v=4), exchange(0, 1), exchange(0, 1)), [9, 4, 0, 0])
        self.assertEqual(values(put(0, v=9), exchange(0, 3)), [0, 0, 0, 9])

    def test_exchange_of_a_cell_with_itself(self):
        self.assertEqual(values(put(0, v=9), exchange(0, 0)), [9, 0, 0, 0])

    def test_if_nought_that_does_something(self):
        self.assertEqual(values(put(1, v=4), if_nought(0, 1, v=8)), [0, 8, 0, 0])
        self.assertEqual(values(put(0, v=0), if_nought(0, 1, v=8)), [0, 8, 0, 0])
        self.assertEqual(values(add(0, v=GREATEST), add(0, v=1), if_nought(0, 1, v=8)), [0, 8, 0, 0])
        self.assertEqual(values(put(1, v=4), if_nought(0, 1, v=0)), [0, 0, 0, 0])

    def test_if_nought_that_does_nothing(self):
        self.assertEqual(values(put(0, v=1), put(1, v=4), if_nought(0, 1, v=8)), [1, 4, 0, 0])
        self.assertEqual(values(put(0, v=GREATEST), if_nought(0, 1, v=8)), [GREATEST, 0, 0, 0])

    def test_if_nought_of_a_cell_with_itself(self):
        self.assertEqual(values(if_nought(0, 0, v=8)), [8, 0, 0, 0])
        self.assertEqual(values(put(0, v=2), if_nought(0, 0, v=8)), [2, 0, 0, 0])

    def test_modulo_2_to_the_32(self):
        self.assertEqual(values(put(0, v=GREATEST), add(0, v=1)), [0, 0, 0, 0])
        self.assertEqual(values(put(0, v=1), add(0, v=GREATEST)), [0, 0, 0, 0])
        self.assertEqual(values(put(0, v=GREATEST), add(0, v=GREATEST)), [GREATEST - 1, 0, 0, 0])
        self.assertEqual(values(put(0, v=GREATEST), put(1, v=1), total(0, 1, 2)), [GREATEST, 1, 0, 0])
        self.assertEqual(values(put(0, v=GREATEST), total(0, 0, 1)), [GREATEST, GREATEST - 1, 0, 0])

    def test_the_greatest_itself(self):
        self.assertEqual(values(put(0, v=GREATEST), copy(0, 1)), [GREATEST, GREATEST, 0, 0])
        self.assertEqual(values(put(0, v=GREATEST - 1), add(0, v=1)), [GREATEST, 0, 0, 0])
        self.assertEqual(values(if_nought(0, 1, v=GREATEST), exchange(1, 2)), [0, 0, GREATEST, 0])

    def test_each_cell_has_its_own(self):
        puts = [put(c, v=100 + c) for c in range(32)]
        self.assertEqual(values(*puts, cells=32), [100 + c for c in range(32)])

    def test_read_along_the_way(self):
        calls = (read(0), put(0, v=3), read(0), add(0, v=4), read(0), take(0), read(0), give(0), read(0))
        self.assertEqual(told(*calls), [[0, 0], [0], [0, 3], [1], [0, 7], [0], [0, 4], [0], [0, 7]])


class WhatIsThere(unittest.TestCase):

    def test_a_step_taken_back_makes_nothing(self):
        for step in (put(0, v=9), add(0, v=9), copy(1, 0), total(1, 1, 0), exchange(1, 0), if_nought(0, 0, v=9)):
            with self.subTest(step=step):
                self.assertEqual(values(put(1, v=5), step, take(1)), [0, 5, 0, 0])

    def test_a_put_over_a_put_taken_back(self):
        self.assertEqual(values(put(0, v=3), put(0, v=4), take(1)), [3, 0, 0, 0])
        self.assertEqual(values(put(0, v=3), put(0, v=4), take(0)), [4, 0, 0, 0])

    def test_an_add_stays_when_the_put_under_it_is_taken_back(self):
        self.assertEqual(values(put(0, v=3), add(0, v=4), take(0)), [4, 0, 0, 0])
        self.assertEqual(values(put(0, v=3), add(0, v=4), put(0, v=9), add(0, v=1), take(2)), [8, 0, 0, 0])

    def test_all_taken_back(self):
        self.assertEqual(values(put(0, v=3), copy(0, 1), total(0, 1, 2), all_of(0)), [0, 0, 0, 0])

    def test_a_copy_keeps_what_it_read(self):
        self.assertEqual(values(put(0, v=3), copy(0, 1), put(0, v=4)), [4, 3, 0, 0])
        self.assertEqual(values(put(0, v=3), copy(0, 1), add(0, v=4)), [7, 3, 0, 0])

    def test_an_add_between_a_put_and_a_copy(self):
        self.assertEqual(values(put(0, v=3), add(0, v=4), copy(0, 1)), [7, 7, 0, 0])

    def test_a_refused_step_makes_nothing(self):
        self.assertEqual(values(put(0, v=3, mask=65536), put(0, v=4, who=16)), [0, 0, 0, 0])

    def test_256_steps(self):
        self.assertEqual(values(*[add(0, v=3)] * 257), [768, 0, 0, 0])


class WrongNumbers(unittest.TestCase):

    def test_who_is_15_at_most(self):
        self.assertEqual(told(read(0, who=15), read(0, who=16), read(0, who=GREATEST)), [[0, 0], [-22], [-22]])

    def test_c_is_31_at_most(self):
        self.assertEqual(told(read(31), read(32), read(GREATEST)), [[0, 0], [-22], [-22]])
        self.assertEqual(last_told(put(31, v=8), read(31, who=15)), [0, 8])

    def test_both(self):
        self.assertEqual(ask(read(32, who=16), read(GREATEST, who=GREATEST)), [-22, -22])

    def test_ahead_of_may_not_see(self):
        self.assertEqual(told(put(0, mask=0), read(0, who=16), read(32), read(0)), [[0], [-22], [-22], [-13]])


class MayNotSee(unittest.TestCase):

    def test_each_person_by_their_bit(self):
        for who in range(16):
            with self.subTest(who=who):
                given = told(put(0, v=5, mask=1 << who), *[read(0, who=person) for person in range(16)])
                self.assertEqual(given[1:], [[0, 5] if person == who else [-13] for person in range(16)])
                given = told(put(0, v=5, mask=EVERYBODY - (1 << who)), *[read(0, who=person) for person in range(16)])
                self.assertEqual(given[1:], [[-13] if person == who else [0, 5] for person in range(16)])

    def test_an_answer_below_0_is_its_number_alone(self):
        self.assertEqual(last_told(put(0, v=5, mask=0), read(0)), [-13])

    def test_through_several_steps(self):
        calls = (put(0, v=5, mask=1), copy(0, 1), total(1, 2, 3))
        self.assertEqual(told(*calls, read(3), read(3, who=1), read(2, who=1))[3:], [[0, 5], [-13], [0, 0]])

    def test_a_cell_that_nobody_set_is_read_by_all(self):
        given = told(put(0, mask=0), *[read(1, who=who) for who in range(16)])
        self.assertEqual(given[1:], [[0, 0]] * 16)

    def test_changes_nothing(self):
        calls = (put(0, mask=0), copy(0, 1), take(1))
        self.assertEqual(view(*calls, read(0), read(32), read(0, who=16)), view(*calls))
        self.assertEqual(view(put(1), read(1)), view(put(1)))


class BeginAgain(unittest.TestCase):

    def test_after_a_read(self):
        calls = (put(0, v=3, mask=1), read(0), BEGIN, read(0), read(0, who=1), seen(0))
        self.assertEqual(told(*calls)[1:], [[0, 3], [0], [0, 0], [0, 0], [0, EVERYBODY]])


if __name__ == "__main__":
    unittest.main()
