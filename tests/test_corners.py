"""The corners that the document names: what may be taken back and given back, and what's read by whom."""

import unittest

from tests.helper import (
    EVERYBODY, GREATEST, add, all_of, ask, copy, exchange, from_, give, if_nought, last, last_told, put, read, seen,
    take, told, total,
)

# Persons 0 and 1 by their bits: what's hidden is hidden to person 1.
HIDDEN = EVERYBODY - 2


def held(*steps):
    """The numbers of the steps that can't be taken back alone, each asked on its own."""
    answered = [last(*steps, take(n)) for n in range(len(steps))]
    return [n for n, number in enumerate(answered) if number == -16]


def going(*steps):
    """For each step, how many go with all, each asked on its own."""
    return [last(*steps, all_of(n)) for n in range(len(steps))]


def of_cell(c, *steps):
    """What person 0 and person 1 read in the cell, who may see it, and from which steps it comes."""
    return told(*steps, read(c), read(c, who=1), seen(c), from_(c))[len(steps):]


def open_to_all(value, *numbers):
    return [[0, value], [0, value], [0, EVERYBODY], [len(numbers), *numbers]]


def hidden_to_1(value, *numbers):
    return [[0, value], [-13], [0, HIDDEN], [len(numbers), *numbers]]


class Corners(unittest.TestCase):

    def test_an_add_between_a_put_and_a_copy(self):
        steps = (put(0), add(0), copy(0, 1))
        self.assertEqual(held(*steps), [0, 1])
        self.assertEqual(going(*steps), [2, 2, 1])

    def test_several_adds_between_a_put_and_a_copy(self):
        self.assertEqual(held(put(0), add(0), add(1), add(0), copy(0, 1)), [0, 1, 3])

    def test_an_add_ahead_of_the_put_feeds_nothing(self):
        self.assertEqual(held(add(0), put(0), copy(0, 1)), [1])

    def test_an_add_behind_the_copy_feeds_nothing(self):
        self.assertEqual(held(put(0), copy(0, 1), add(0)), [0])

    def test_an_add_hangs_on_nothing(self):
        self.assertEqual(held(put(0), add(0), add(0)), [])

    def test_an_add_of_0_feeds_the_cell(self):
        self.assertEqual(held(put(0), add(0, v=0), copy(0, 1)), [0, 1])

    def test_a_cell_that_nobody_set_added_to(self):
        steps = (add(0), add(0), copy(0, 1))
        self.assertEqual(held(*steps), [0, 1])
        self.assertEqual(going(*steps), [2, 2, 1])

    def test_a_cell_that_nobody_set(self):
        self.assertEqual(held(copy(0, 1), total(2, 3, 4), if_nought(5, 6), exchange(7, 8)), [])

    def test_an_exchange_of_a_cell_with_itself(self):
        steps = (put(0), exchange(0, 0), copy(0, 1))
        self.assertEqual(held(*steps), [0, 1])
        self.assertEqual(going(*steps), [3, 2, 1])

    def test_an_exchange_of_a_cell_with_itself_sets_it(self):
        # The copy hangs on the exchange alone: the put is held by the exchange.
        calls = (put(0), exchange(0, 0, who=1), copy(0, 1), all_of(0), take(2), take(1, who=1), take(0))
        self.assertEqual(ask(*calls)[3:], [-13, 0, 0, 0])

    def test_an_exchange_hangs_on_both_and_is_hung_on_by_both(self):
        self.assertEqual(held(put(0), put(1), exchange(0, 1)), [0, 1])
        self.assertEqual(held(exchange(0, 1), copy(0, 2)), [0])
        self.assertEqual(held(exchange(0, 1), copy(1, 2)), [0])

    def test_a_sum_of_a_cell_with_itself_into_itself(self):
        steps = (put(0), add(0), total(0, 0, 0), copy(0, 1))
        self.assertEqual(held(*steps), [0, 1, 2])
        self.assertEqual(going(*steps), [3, 3, 2, 1])

    def test_a_sum_of_a_cell_with_itself_hangs_not_on_itself(self):
        self.assertEqual(ask(total(0, 0, 0), take(0)), [0, 0])

    def test_an_if_nought_that_does_nothing(self):
        steps = (put(0, v=5), put(1, v=6), if_nought(0, 1, v=9), copy(1, 2))
        self.assertEqual(held(*steps), [0, 1, 2])
        self.assertEqual(going(*steps), [3, 3, 2, 1])

    def test_an_if_nought_sets_whatever_is_in_a(self):
        for v in (0, 1):
            with self.subTest(v=v):
                steps = (put(0, v=v), put(1), if_nought(0, 1), copy(1, 2))
                calls = steps + (take(3), take(2), take(1), take(0))
                self.assertEqual(ask(*calls)[4:], [0, 0, 0, 0])
                self.assertEqual(going(*steps), [3, 3, 2, 1])

    def test_an_if_nought_of_a_cell_with_itself(self):
        self.assertEqual(held(put(0), if_nought(0, 0), copy(0, 1)), [0, 1])

    def test_a_put_over_a_put(self):
        steps = (put(0), put(0), copy(0, 1))
        self.assertEqual(held(*steps), [1])
        self.assertEqual(going(*steps), [1, 2, 1])

    def test_a_put_over_a_put_that_was_copied(self):
        self.assertEqual(held(put(0), copy(0, 1), put(0), copy(0, 2)), [0, 2])

    def test_a_put_taken_back_lets_the_older_feed_again(self):
        calls = (put(0), add(0), put(0), add(0), take(2), copy(0, 1))
        self.assertEqual(ask(*calls)[4:], [0, 4])
        for n, number in ((0, -16), (1, -16), (2, -17), (3, -16)):
            with self.subTest(n=n):
                self.assertEqual(last(*calls, take(n)), number)

    def test_two_that_may_be_taken_back_may_be_so_in_either_order(self):
        steps = (put(0), put(0), copy(0, 1), put(1), copy(1, 2))
        self.assertEqual(ask(*steps, take(0), take(2), take(1))[5:], [0, 0, 0])
        self.assertEqual(ask(*steps, take(2), take(0), take(1))[5:], [0, 0, 0])

    def test_a_step_seen_by_nobody(self):
        self.assertEqual(held(put(0, mask=0), copy(0, 1, mask=0), copy(1, 2)), [0, 1])


class WhatIsRead(unittest.TestCase):
    """The same corners of the stage, by values and steps."""

    def test_an_add_between_a_put_and_a_copy(self):
        self.assertEqual(of_cell(1, put(0, v=3), add(0, v=4), copy(0, 1)), open_to_all(7, 0, 1, 2))
        self.assertEqual(of_cell(1, put(0, v=3), add(0, v=4, mask=HIDDEN), copy(0, 1)), hidden_to_1(7, 0, 1, 2))

    def test_a_cell_that_nobody_set_added_to(self):
        self.assertEqual(of_cell(0, add(0, v=3), add(0, v=4)), open_to_all(7, 0, 1))
        self.assertEqual(of_cell(0, add(0, v=3), add(0, v=4, mask=HIDDEN)), hidden_to_1(7, 0, 1))

    def test_an_exchange_of_a_cell_with_itself(self):
        self.assertEqual(of_cell(0, put(0, v=3), add(0, v=4), exchange(0, 0)), open_to_all(7, 0, 1, 2))
        self.assertEqual(of_cell(0, put(0, v=3), exchange(0, 0, mask=HIDDEN)), hidden_to_1(3, 0, 1))

    def test_a_sum_of_a_cell_with_itself_into_itself(self):
        self.assertEqual(of_cell(0, put(0, v=3), add(0, v=4), total(0, 0, 0)), open_to_all(14, 0, 1, 2))
        self.assertEqual(of_cell(0, put(0, v=3, mask=HIDDEN), total(0, 0, 0)), hidden_to_1(6, 0, 1))

    def test_an_if_nought_that_does_nothing(self):
        steps = (put(0, v=3), put(1, v=4), if_nought(0, 1, v=9))
        self.assertEqual(of_cell(1, *steps), open_to_all(4, 0, 1, 2))

    def test_a_put_over_a_put(self):
        self.assertEqual(of_cell(0, put(0, v=3, mask=HIDDEN), put(0, v=4)), open_to_all(4, 1))
        self.assertEqual(of_cell(0, put(0, v=3, mask=HIDDEN), put(0, v=4), take(1)), hidden_to_1(3, 0))

    def test_a_step_given_back_where_another_has_been_done_over_it(self):
        steps = (put(0, v=3, mask=HIDDEN), take(0), put(0, v=4), copy(0, 1), give(0))
        self.assertEqual(last(*steps), 0)
        self.assertEqual(of_cell(0, *steps), open_to_all(4, 1))
        self.assertEqual(of_cell(1, *steps), open_to_all(4, 1, 2))

    def test_a_step_given_back_where_what_it_read_was_taken_back(self):
        steps = (put(0, v=3), copy(0, 1, mask=HIDDEN), take(1), take(0), give(1))
        self.assertEqual(last(*steps), -11)
        self.assertEqual(of_cell(1, *steps), open_to_all(0))
        self.assertEqual(of_cell(1, *steps, give(0), give(1)), hidden_to_1(3, 0, 1))

    def test_256_steps(self):
        steps = [add(0, v=GREATEST)] * 128 + [total(0, 1, 1)] * 127 + [add(1, v=1, mask=HIDDEN)]
        # 128 times 2^32 - 1 is 2^32 - 128; 127 of these summed are 2^32 - 16256.
        value = 4294967296 - 128 * 127 + 1
        self.assertEqual(of_cell(1, *steps), hidden_to_1(value, *range(256)))
        self.assertEqual(of_cell(0, *steps), open_to_all(4294967168, *range(128)))
        self.assertEqual(of_cell(1, *steps, put(1)), [[0, value], [-13], [0, HIDDEN], [256, *range(256)]])
        self.assertEqual(of_cell(1, *steps, take(255)), open_to_all(value - 1, *range(255)))

    def test_who_of_15_and_16(self):
        self.assertEqual(ask(put(0, who=15), put(0, who=16), take(0, who=15), give(0, who=15)), [0, -22, 0, 0])
        self.assertEqual(told(read(0, who=15), read(0, who=16)), [[0, 0], [-22]])

    def test_2_to_the_32_less_1_and_1_added(self):
        self.assertEqual(of_cell(0, put(0, v=GREATEST), add(0, v=1)), open_to_all(0, 0, 1))
        self.assertEqual(of_cell(0, add(0, v=1), add(0, v=GREATEST)), open_to_all(0, 0, 1))


class WhoMaySee(unittest.TestCase):
    """The corners of the document's first part."""

    def test_a_step_seen_by_nobody(self):
        steps = (put(0, v=3, mask=0), copy(0, 1))
        given = told(*steps, *[read(c, who=who) for c in (0, 1) for who in range(16)], seen(0), seen(1))
        self.assertEqual(given[2:], [[-13]] * 32 + [[0, 0], [0, 0]])
        self.assertEqual(last_told(*steps, from_(1)), [2, 0, 1])
        self.assertEqual(of_cell(0, *steps, put(0, v=4)), open_to_all(4, 2))
        self.assertEqual(ask(*steps, take(1), take(0), give(0))[2:], [0, 0, 0])

    def test_a_put_by_somebody_that_they_may_not_see_themselves(self):
        self.assertEqual(of_cell(0, put(0, v=3, who=1, mask=HIDDEN)), hidden_to_1(3, 0))
        self.assertEqual(ask(put(0, v=3, who=1, mask=HIDDEN), take(0, who=1), give(0, who=1)), [0, 0, 0])

    def test_an_if_nought_over_a_cell_that_is_hidden(self):
        for v, value in ((0, 9), (3, 4)):
            with self.subTest(v=v):
                steps = (put(0, v=v, mask=HIDDEN), put(1, v=4), if_nought(0, 1, v=9))
                self.assertEqual(of_cell(1, *steps), hidden_to_1(value, 0, 1, 2))
                self.assertEqual(of_cell(0, *steps), hidden_to_1(v, 0))

    def test_an_if_nought_into_a_cell_that_is_hidden(self):
        for v, value in ((0, 9), (3, 4)):
            with self.subTest(v=v):
                steps = (put(0, v=v), put(1, v=4, mask=HIDDEN), if_nought(0, 1, v=9))
                self.assertEqual(of_cell(1, *steps), hidden_to_1(value, 0, 1, 2))
                self.assertEqual(of_cell(0, *steps), open_to_all(v, 0))

    def test_an_exchange_of_a_hidden_cell_and_an_open_one(self):
        for both in ((0, 1), (1, 0)):
            with self.subTest(both=both):
                steps = (put(0, v=3, mask=HIDDEN), put(1, v=4), exchange(*both))
                self.assertEqual(of_cell(0, *steps), hidden_to_1(4, 0, 1, 2))
                self.assertEqual(of_cell(1, *steps), hidden_to_1(3, 0, 1, 2))
                self.assertEqual(of_cell(1, *steps, take(2)), open_to_all(4, 1))

    def test_an_add_that_is_hidden_to_an_open_cell_taken_back(self):
        steps = (put(0, v=3), add(0, v=4, mask=HIDDEN))
        self.assertEqual(of_cell(0, *steps), hidden_to_1(7, 0, 1))
        self.assertEqual(of_cell(0, *steps, take(1)), open_to_all(3, 0))
        self.assertEqual(of_cell(0, *steps, take(1), give(1)), hidden_to_1(7, 0, 1))

    def test_a_copy_of_a_cell_before_it_is_put_over(self):
        steps = (put(0, v=3, mask=HIDDEN), copy(0, 1), put(0, v=4))
        self.assertEqual(of_cell(0, *steps), open_to_all(4, 2))
        self.assertEqual(of_cell(1, *steps), hidden_to_1(3, 0, 1))
        steps = (put(0, v=3), copy(0, 1), put(0, v=4, mask=HIDDEN))
        self.assertEqual(of_cell(0, *steps), hidden_to_1(4, 2))
        self.assertEqual(of_cell(1, *steps), open_to_all(3, 0, 1))

    def test_a_cell_that_nobody_set(self):
        self.assertEqual(of_cell(5, put(0, mask=0)), open_to_all(0))
        self.assertEqual(of_cell(6, put(0, mask=0), copy(5, 6)), open_to_all(0, 1))
        self.assertEqual(of_cell(5, put(5, mask=0), take(0)), open_to_all(0))


if __name__ == "__main__":
    unittest.main()
