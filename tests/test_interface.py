"""How calls are written in the list, and how the answers are given back."""

import contextlib
import io
import unittest

from seenby.sheet import answers
from tests.helper import (
    BEGIN, GREATEST, add, all_of, apart, ask, copy, do, flat, put, take, total,
)

# Every call, with answers and refusals of each.
SOME_CALLS = flat((
    BEGIN, put(0), copy(0, 1, who=1), put(32), add(1, mask=0), take(0), take(9), take(0, who=2),
    all_of(0), take(1, who=1), all_of(0), all_of(0), total(1, 1, 1), BEGIN, put(31),
))


class Form(unittest.TestCase):

    def test_one_number_and_how_many_ahead_of_it(self):
        calls = [0, 1, 3, 0, 4, 0, 0, 9, 65535, 1, 3, 2, 4, 5, 0, 0, 1, 2, 3, 0, 3, 3, 0, 2, 3, 1]
        self.assertEqual(answers(calls), [1, 0, 1, 0, 1, 1, 1, -16, 1, 2, 1, -17])

    def test_a_refusal_is_its_number_alone(self):
        self.assertEqual(answers([0, 2, 0, 0, 3, 0, 0]), [1, 0, 1, -2, 1, -2])
        self.assertEqual(answers([0, 1, 16, 0, 0, 0, 0, 0, 0]), [1, 0, 1, -22])

    def test_one_answer_for_each_call(self):
        self.assertEqual([len(numbers) for numbers in apart(answers(SOME_CALLS))], [1] * 15)

    def test_a_list_of_whole_numbers_that_are_not_truths(self):
        given = answers(SOME_CALLS)
        self.assertIs(type(given), list)
        self.assertEqual({type(number) for number in given}, {int})


class KeepsNothing(unittest.TestCase):

    def test_what_is_handed_in_is_the_same_afterwards(self):
        calls = list(SOME_CALLS)
        answers(calls)
        self.assertEqual(calls, SOME_CALLS)

    def test_what_is_handed_in_is_not_changed_for_a_while_either(self):
        self.assertEqual(answers(Watched(SOME_CALLS)), answers(SOME_CALLS))

    def test_the_same_list_twice_is_answered_alike(self):
        self.assertEqual(answers(SOME_CALLS), answers(SOME_CALLS))

    def test_each_list_has_a_new_sheet(self):
        steps = flat([BEGIN] + [put(0)] * 256)
        answers(steps)
        self.assertEqual(answers(flat((BEGIN, take(0), put(0)))), [1, 0, 1, -2, 1, 0])

    def test_what_is_given_back_is_new_each_time(self):
        first = answers(SOME_CALLS)
        first.clear()
        self.assertEqual(len(answers(SOME_CALLS)), 30)

    def test_nothing_is_printed(self):
        printed = io.StringIO()
        with contextlib.redirect_stdout(printed), contextlib.redirect_stderr(printed):
            answers(SOME_CALLS)
        self.assertEqual(printed.getvalue(), "")


class Watched(list):
    """A list that fails when something changes it."""

    def changed(self, *what):
        raise AssertionError("the list that was handed in is changed")

    append = clear = extend = insert = pop = remove = reverse = sort = changed
    __setitem__ = __delitem__ = __iadd__ = __imul__ = changed


class GreatestNumbers(unittest.TestCase):

    def test_each_number_of_do(self):
        for k in range(7):
            with self.subTest(k=k):
                # An if nought names v, so that may be the greatest; c is what it doesn't name.
                call = do(0, 5, a=1, b=2, v=3)
                call[k + 1] = GREATEST
                self.assertEqual(ask(call), [0 if k == 5 else -22])

    def test_each_number_of_take_and_all(self):
        for call in (take, all_of):
            with self.subTest(call=call):
                self.assertEqual(ask(put(0), call(0, who=GREATEST)), [0, -1])
                self.assertEqual(ask(put(0), call(GREATEST)), [0, -2])
                self.assertEqual(ask(put(0), call(GREATEST, who=GREATEST)), [0, -2])

    def test_400_calls(self):
        steps = [add(0)] * 128 + [copy(0, 1)] * 128
        asked = [take(n) for n in range(128)] + [all_of(127 + k) for k in range(15)]
        given = ask(*steps, *asked)
        self.assertEqual(len(given), 399)
        self.assertEqual(given[:256], list(range(256)))
        self.assertEqual(given[256:], [-16] * 128 + [129] + [-17] * 14)

    def test_400_begins(self):
        self.assertEqual(answers([0] * 400), [1, 0] * 400)

    def test_400_calls_that_all_hang_on_one_another(self):
        steps = [put(0)] + [total(0, 0, 0)] * 255
        given = ask(*steps, *[take(n) for n in range(143)])
        self.assertEqual(given[256:], [-16] * 143)


if __name__ == "__main__":
    unittest.main()
