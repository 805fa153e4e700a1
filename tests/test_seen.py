"""seen: 0 and who may see the cell, or -22."""

import unittest

from tests.helper import (
    BEGIN, EVERYBODY, GREATEST, add, all_of, copy, exchange, give, if_nought, last_told, put, seen, take, told, total,
    view,
)


def people(cell, *calls):
    """Who may see the cell behind the calls, as bits."""
    given = last_told(*calls, seen(cell))
    if len(given) != 2 or given[0] != 0:
        raise AssertionError(f"not told: {given}")
    return given[1]


class ThroughOneStep(unittest.TestCase):

    def test_everybody_where_nobody_set(self):
        self.assertEqual(told(*[seen(c) for c in range(32)]), [[0, 65535]] * 32)
        self.assertEqual(people(1, put(0, mask=0)), 65535)

    def test_whom_the_mask_tells(self):
        for mask in [1 << who for who in range(16)] + [0, 43690, 21845, 65534, 65535]:
            for step in (put(0, mask=mask), add(0, mask=mask), if_nought(1, 0, mask=mask), copy(1, 0, mask=mask),
                         total(1, 2, 0, mask=mask), exchange(0, 1, mask=mask), exchange(1, 0, mask=mask)):
                with self.subTest(mask=mask, step=step):
                    self.assertEqual(people(0, step), mask)

    def test_who_did_it_counts_for_nothing(self):
        for who in range(16):
            with self.subTest(who=who):
                self.assertEqual(people(0, put(0, who=who, mask=6)), 6)

    def test_a_cell_that_is_read_only_stays_as_it_was(self):
        for step in (copy(0, 1, mask=0), total(0, 0, 1, mask=0), if_nought(0, 1, mask=0)):
            with self.subTest(step=step):
                self.assertEqual(people(0, put(0, mask=5), step), 5)


class ThroughSeveral(unittest.TestCase):

    def test_a_setter_and_what_it_read(self):
        fed = (put(0, mask=0b11100), put(1, mask=0b11010), put(2, mask=0b01111))
        self.assertEqual(people(2, *fed, copy(0, 2, mask=0b10110)), 0b10100)
        self.assertEqual(people(2, *fed, total(0, 1, 2, mask=0b11111)), 0b11000)
        self.assertEqual(people(2, *fed, total(0, 1, 2, mask=0b10111)), 0b10000)
        self.assertEqual(people(2, *fed, if_nought(0, 2, mask=0b11111)), 0b01100)
        for cell in (0, 1):
            self.assertEqual(people(cell, *fed, exchange(0, 1, mask=0b01111)), 0b01000)

    def test_adds_behind_a_setter(self):
        self.assertEqual(people(0, put(0, mask=0b1110), add(0, mask=0b1101), add(0, mask=0b0111)), 0b0100)
        self.assertEqual(people(0, add(0, mask=0b110), add(0, mask=0b011)), 0b010)

    def test_what_was_ahead_of_the_last_setter_counts_no_more(self):
        self.assertEqual(people(0, put(0, mask=0), add(0, mask=0), put(0, mask=9)), 9)
        self.assertEqual(people(0, put(0, mask=0), copy(1, 0, mask=9)), 9)
        self.assertEqual(people(0, put(0, mask=0), total(1, 2, 0, mask=9)), 9)

    def test_a_sum_into_itself_keeps_what_it_read(self):
        self.assertEqual(people(0, put(0, mask=6), total(0, 0, 0, mask=3)), 2)

    def test_along_a_row_of_copies(self):
        calls = [put(0)] + [copy(k, k + 1, mask=EVERYBODY - (1 << k)) for k in range(16)]
        wanted = 65535
        for k in range(17):
            self.assertEqual(people(k, *calls), wanted)
            wanted &= ~(1 << k)

    def test_along_256_steps(self):
        calls = [put(0, mask=9)] + [total(0, 0, 0)] * 255
        self.assertEqual(people(0, *calls), 9)

    def test_steps_that_hang_on_it_count_for_nothing(self):
        self.assertEqual(people(0, put(0, mask=9), copy(0, 1, mask=0)), 9)

    def test_taken_back_and_given_back(self):
        calls = (put(0, mask=12), add(0, mask=10), seen(0), take(1), seen(0), take(0), seen(0), give(1), seen(0),
                 give(0), seen(0))
        self.assertEqual(told(*calls)[2::2], [[0, 8], [0, 12], [0, 65535], [0, 10], [0, 8]])

    def test_all_taken_back(self):
        self.assertEqual(people(1, put(0, mask=1), copy(0, 1), all_of(0)), 65535)


class WrongNumbers(unittest.TestCase):

    def test_c_is_31_at_most(self):
        self.assertEqual(told(seen(31), seen(32), seen(GREATEST)), [[0, 65535], [-22], [-22]])
        self.assertEqual(people(31, put(31, mask=4)), 4)

    def test_changes_nothing(self):
        calls = (put(0, mask=5), copy(0, 1), take(1))
        self.assertEqual(view(*calls, seen(0), seen(32)), view(*calls))


class BeginAgain(unittest.TestCase):

    def test_after_a_seen(self):
        self.assertEqual(told(put(0, mask=3), seen(0), BEGIN, seen(0))[1:], [[0, 3], [0], [0, 65535]])


if __name__ == "__main__":
    unittest.main()
