"""from: how many steps, then their numbers, rising; or -22."""

import unittest

from tests.helper import (
    BEGIN, GREATEST, add, all_of, ask, copy, exchange, from_, give, if_nought, last_told, put, sheet_behind, take, told,
    total, view,
)
from seenby.sheet import made_by


def sources(cell, *calls):
    """The steps from which the cell's value comes behind the calls."""
    given = last_told(*calls, from_(cell))
    if given[0] != len(given) - 1:
        raise AssertionError(f"not as many as told: {given}")
    return given[1:]


class NoStep(unittest.TestCase):

    def test_how_many_is_0_and_stands_alone(self):
        self.assertEqual(told(*[from_(c) for c in range(32)]), [[0]] * 32)

    def test_a_cell_that_nobody_set(self):
        self.assertEqual(last_told(put(0), copy(0, 1), from_(2)), [0])

    def test_all_taken_back(self):
        self.assertEqual(last_told(put(0), copy(0, 1), all_of(0), from_(1)), [0])


class ThroughOneStep(unittest.TestCase):

    def test_each_kind(self):
        for step in (put(5), add(5), copy(0, 5), total(0, 1, 5), exchange(0, 5), exchange(5, 0), exchange(5, 5),
                     if_nought(0, 5)):
            with self.subTest(step=step):
                self.assertEqual(last_told(put(9), step, from_(5)), [1, 1])

    def test_a_cell_that_is_read_only_is_not_fed(self):
        for step in (copy(0, 5), total(0, 1, 5), if_nought(0, 5)):
            with self.subTest(step=step):
                self.assertEqual(last_told(step, from_(0)), [0])

    def test_a_put_over_a_put(self):
        self.assertEqual(last_told(put(0), put(0), from_(0)), [1, 1])

    def test_the_last_setter_and_the_adds_behind_it(self):
        self.assertEqual(last_told(add(0), put(0), add(0), add(1), add(0), from_(0)), [3, 1, 2, 4])

    def test_adds_alone(self):
        self.assertEqual(last_told(add(0), add(1), add(0), from_(0)), [2, 0, 2])


class ThroughSeveral(unittest.TestCase):

    def test_what_each_kind_read(self):
        fed = (put(0), put(1), add(1), put(2))
        self.assertEqual(sources(2, *fed, copy(1, 2)), [1, 2, 4])
        self.assertEqual(sources(2, *fed, total(0, 1, 2)), [0, 1, 2, 4])
        self.assertEqual(sources(2, *fed, if_nought(0, 2)), [0, 3, 4])
        self.assertEqual(sources(0, *fed, exchange(0, 2)), [0, 3, 4])
        self.assertEqual(sources(2, *fed, exchange(0, 2)), [0, 3, 4])
        self.assertEqual(sources(1, *fed, add(1)), [1, 2, 4])

    def test_and_so_on(self):
        calls = (put(0), copy(0, 1), copy(1, 2), copy(2, 3))
        for cell in range(4):
            with self.subTest(cell=cell):
                self.assertEqual(sources(cell, *calls), list(range(cell + 1)))

    def test_rising_and_each_once(self):
        # Both ways from step 0 meet in step 4, and step 3 comes straight too.
        calls = (put(0), copy(0, 1), copy(0, 2), total(1, 2, 3), total(3, 0, 4), add(4))
        self.assertEqual(last_told(*calls, from_(4)), [6, 0, 1, 2, 3, 4, 5])

    def test_rising_where_the_later_cell_is_read_first(self):
        self.assertEqual(last_told(put(0), put(1), total(1, 0, 2), from_(2)), [3, 0, 1, 2])

    def test_at_the_places_of_the_steps_and_not_at_the_end(self):
        calls = (put(0), copy(0, 1), put(0), add(0), copy(1, 2))
        self.assertEqual(sources(2, *calls), [0, 1, 4])
        self.assertEqual(sources(0, *calls), [2, 3])

    def test_taken_back_and_given_back(self):
        calls = (put(0), add(0), put(0), from_(0), take(2), from_(0), take(0), from_(0), give(2), from_(0), give(0),
                 take(2), from_(0))
        self.assertEqual([told(*calls)[k] for k in (3, 5, 7, 9, 12)], [[1, 2], [2, 0, 1], [1, 1], [1, 2], [2, 0, 1]])

    def test_256_steps(self):
        self.assertEqual(last_told(put(0), *[total(0, 0, 0)] * 255, from_(0)), [256] + list(range(256)))
        self.assertEqual(last_told(*[add(0)] * 256, from_(0)), [256] + list(range(256)))
        self.assertEqual(last_told(*[put(0)] * 256, from_(0)), [1, 255])


class Enough(unittest.TestCase):

    def test_these_steps_alone_give_the_cell_its_value(self):
        calls = (put(0, v=5), put(1, v=6), add(0, v=7), total(0, 1, 2), exchange(2, 1), if_nought(3, 0, v=8), add(1, v=9),
                 if_nought(1, 2, v=4), copy(1, 0), add(0, v=GREATEST))
        contents = made_by(sheet_behind(*calls).steps)
        for cell in range(4):
            with self.subTest(cell=cell):
                alone = [calls[n] for n in sources(cell, *calls)]
                self.assertEqual(made_by(sheet_behind(*alone).steps)[cell], contents[cell])


class WrongNumbers(unittest.TestCase):

    def test_c_is_31_at_most(self):
        self.assertEqual(told(put(31), from_(31), from_(32), from_(GREATEST)), [[0], [1, 0], [-22], [-22]])
        self.assertEqual(ask(from_(31), from_(32)), [0, -22])

    def test_changes_nothing(self):
        calls = (put(0), copy(0, 1), take(1))
        self.assertEqual(view(*calls, from_(0), from_(1), from_(32)), view(*calls))


class BeginAgain(unittest.TestCase):

    def test_after_a_from(self):
        self.assertEqual(told(put(0), add(0), from_(0), BEGIN, from_(0))[2:], [[2, 0, 1], [0], [0]])


if __name__ == "__main__":
    unittest.main()
