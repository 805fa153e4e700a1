"""begin: no steps, and it may come again."""

import unittest

from seenby.sheet import answers
from tests.helper import BEGIN, add, all_of, ask, copy, from_, give, put, read, seen, take, told, view


class Begin(unittest.TestCase):

    def test_alone(self):
        self.assertEqual(answers([0]), [1, 0])

    def test_there_are_no_steps(self):
        self.assertEqual(ask(take(0), all_of(0)), [-2, -2])

    def test_again_at_once(self):
        self.assertEqual(answers([0, 0, 0]), [1, 0, 1, 0, 1, 0])

    def test_again_after_steps_numbers_start_from_0(self):
        self.assertEqual(ask(put(0), put(1), BEGIN, put(2), put(3)), [0, 1, 0, 0, 1])

    def test_again_after_steps_the_older_are_gone(self):
        self.assertEqual(ask(put(0), put(1), BEGIN, take(0), all_of(1)), [0, 1, 0, -2, -2])

    def test_again_nothing_older_feeds_a_cell(self):
        calls = (put(0), add(0), BEGIN, put(1), copy(0, 2), take(0))
        self.assertEqual(ask(*calls), [0, 1, 0, 0, 1, 0])

    def test_again_nothing_older_hangs_on_a_step(self):
        calls = (put(0), copy(0, 1), BEGIN, put(0), take(0))
        self.assertEqual(ask(*calls), [0, 1, 0, 0, 0])

    def test_again_what_was_taken_back_is_forgotten(self):
        calls = (put(0), take(0), BEGIN, put(0), take(0))
        self.assertEqual(ask(*calls), [0, 0, 0, 0, 0])

    def test_again_every_cell_is_as_at_first(self):
        steps = [put(c, mask=0) for c in range(32)]
        self.assertEqual(view(*steps, BEGIN), view())
        asked = (read(0), read(31, who=15), seen(0), from_(0), give(0))
        self.assertEqual(told(*steps, BEGIN, *asked)[33:], [[0, 0], [0, 0], [0, 65535], [0], [-2]])

    def test_again_after_each_call(self):
        for call in (BEGIN, put(0), take(0), all_of(1), give(2), read(0), seen(0), from_(0), read(32), give(9)):
            with self.subTest(call=call):
                steps = (put(0, v=1), put(1, v=2), put(2, v=3), take(2))
                self.assertEqual(view(*steps, call, BEGIN), view())
                self.assertEqual(told(*steps, call, BEGIN, put(0, v=9), read(0))[5:], [[0], [0], [0, 9]])

    def test_again_when_there_was_no_more_room(self):
        steps = [put(0)] * 256
        given = ask(*steps, put(0), BEGIN, *steps[:100], put(0))
        self.assertEqual(given[256:258], [-28, 0])
        self.assertEqual(given[258:], list(range(101)))


if __name__ == "__main__":
    unittest.main()
