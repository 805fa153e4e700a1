"""The corners that the document names, by what may be taken back."""

import unittest

from tests.helper import (
    add, all_of, ask, copy, exchange, if_nought, last, put, take, total,
)


def held(*steps):
    """The numbers of the steps that can't be taken back alone, each asked on its own."""
    answered = [last(*steps, take(n)) for n in range(len(steps))]
    return [n for n, number in enumerate(answered) if number == -16]


def going(*steps):
    """For each step, how many go with all, each asked on its own."""
    return [last(*steps, all_of(n)) for n in range(len(steps))]


class Corners(unittest.TestCase):

    def test_an_add_between_a_put_and_a_copy(self):
        steps = (put(0), add(0), copy(0, 1))
        self.assertEqual(held(*steps), [0, 1])
        self.assertEqual(going(*steps), [2, 2, 1])

    def test_several_adds_between_a_put_and_a_copy(self):
        self.assertEqual(held(put(0), add(0), add(1), add(0), copy(0, 1)), [0, 1, 3])

    def test_an_add_ahead_of_the_put_feeds_nothing(self):
        self.assertEqual(held(add(0), put(0), copy(0, 1)), [1])

    def test_an_add_behind_the_copy_feeds_nothing(self):
        self.assertEqual(held(put(0), copy(0, 1), add(0)), [0])

    def test_an_add_hangs_on_nothing(self):
        self.assertEqual(held(put(0), add(0), add(0)), [])

    def test_an_add_of_0_feeds_the_cell(self):
        self.assertEqual(held(put(0), add(0, v=0), copy(0, 1)), [0, 1])

    def test_a_cell_that_nobody_set_added_to(self):
        steps = (add(0), add(0), copy(0, 1))
        self.assertEqual(held(*steps), [0, 1])
        self.assertEqual(going(*steps), [2, 2, 1])

    def test_a_cell_that_nobody_set(self):
        self.assertEqual(held(copy(0, 1), total(2, 3, 4), if_nought(5, 6), exchange(7, 8)), [])

    def test_an_exchange_of_a_cell_with_itself(self):
        steps = (put(0), exchange(0, 0), copy(0, 1))
        self.assertEqual(held(*steps), [0, 1])
        self.assertEqual(going(*steps), [3, 2, 1])

    def test_an_exchange_of_a_cell_with_itself_sets_it(self):
        # The copy hangs on the exchange alone: the put is held by the exchange.
        calls = (put(0), exchange(0, 0, who=1), copy(0, 1), all_of(0), take(2), take(1, who=1), take(0))
        self.assertEqual(ask(*calls)[3:], [-13, 0, 0, 0])

    def test_an_exchange_hangs_on_both_and_is_hung_on_by_both(self):
        self.assertEqual(held(put(0), put(1), exchange(0, 1)), [0, 1])
        self.assertEqual(held(exchange(0, 1), copy(0, 2)), [0])
        self.assertEqual(held(exchange(0, 1), copy(1, 2)), [0])

    def test_a_sum_of_a_cell_with_itself_into_itself(self):
        steps = (put(0), add(0), total(0, 0, 0), copy(0, 1))
        self.assertEqual(held(*steps), [0, 1, 2])
        self.assertEqual(going(*steps), [3, 3, 2, 1])

    def test_a_sum_of_a_cell_with_itself_hangs_not_on_itself(self):
        self.assertEqual(ask(total(0, 0, 0), take(0)), [0, 0])

    def test_an_if_nought_that_does_nothing(self):
        steps = (put(0, v=5), put(1, v=6), if_nought(0, 1, v=9), copy(1, 2))
        self.assertEqual(held(*steps), [0, 1, 2])
        self.assertEqual(going(*steps), [3, 3, 2, 1])

    def test_an_if_nought_sets_whatever_is_in_a(self):
        for v in (0, 1):
            with self.subTest(v=v):
                steps = (put(0, v=v), put(1), if_nought(0, 1), copy(1, 2))
                calls = steps + (take(3), take(2), take(1), take(0))
                self.assertEqual(ask(*calls)[4:], [0, 0, 0, 0])
                self.assertEqual(going(*steps), [3, 3, 2, 1])

    def test_an_if_nought_of_a_cell_with_itself(self):
        self.assertEqual(held(put(0), if_nought(0, 0), copy(0, 1)), [0, 1])

    def test_a_put_over_a_put(self):
        steps = (put(0), put(0), copy(0, 1))
        self.assertEqual(held(*steps), [1])
        self.assertEqual(going(*steps), [1, 2, 1])

    def test_a_put_over_a_put_that_was_copied(self):
        self.assertEqual(held(put(0), copy(0, 1), put(0), copy(0, 2)), [0, 2])

    def test_a_put_taken_back_lets_the_older_feed_again(self):
        calls = (put(0), add(0), put(0), add(0), take(2), copy(0, 1))
        self.assertEqual(ask(*calls)[4:], [0, 4])
        for n, number in ((0, -16), (1, -16), (2, -17), (3, -16)):
            with self.subTest(n=n):
                self.assertEqual(last(*calls, take(n)), number)

    def test_two_that_may_be_taken_back_may_be_so_in_either_order(self):
        steps = (put(0), put(0), copy(0, 1), put(1), copy(1, 2))
        self.assertEqual(ask(*steps, take(0), take(2), take(1))[5:], [0, 0, 0])
        self.assertEqual(ask(*steps, take(2), take(0), take(1))[5:], [0, 0, 0])

    def test_a_step_seen_by_nobody(self):
        self.assertEqual(held(put(0, mask=0), copy(0, 1, mask=0), copy(1, 2)), [0, 1])


if __name__ == "__main__":
    unittest.main()
