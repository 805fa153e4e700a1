"""How calls are written in the list, and how the answers are given back."""

import contextlib
import io
import unittest

from seenby.sheet import answers
from tests.helper import (
    BEGIN, EVERYBODY, GREATEST, add, all_of, apart, ask, copy, do, exchange, flat, from_, give, if_nought, put, read,
    seen, take, told, total,
)

# Every call, with answers and refusals of each.
SOME_CALLS = flat((
    BEGIN, put(0), copy(0, 1, who=1), put(32), add(1, mask=0), take(0), take(9), take(0, who=2),
    all_of(0), take(1, who=1), all_of(0), all_of(0), total(1, 1, 1), give(1, who=1), give(0), give(0), give(2),
    give(8), give(0, who=3), read(0), read(1), read(0, who=16), seen(0), seen(1), seen(32), from_(0), from_(1),
    from_(5), from_(32), exchange(0, 1), if_nought(1, 2), BEGIN, put(31), read(31),
))


class Form(unittest.TestCase):

    def test_one_number_and_how_many_ahead_of_it(self):
        calls = [0, 1, 3, 0, 4, 0, 0, 9, 65535, 1, 3, 2, 4, 5, 0, 0, 1, 2, 3, 0, 3, 3, 0, 2, 3, 1]
        self.assertEqual(answers(calls), [1, 0, 1, 0, 1, 1, 1, -16, 1, 2, 1, -17])

    def test_read_and_seen_give_back_0_and_one_number(self):
        calls = [0, 1, 3, 0, 4, 0, 0, 9, 5, 5, 2, 4, 6, 4, 5, 1, 4]
        self.assertEqual(answers(calls), [1, 0, 1, 0, 2, 0, 9, 2, 0, 5, 1, -13])

    def test_from_gives_back_how_many_and_their_numbers(self):
        calls = [0, 1, 3, 0, 4, 0, 0, 9, 5, 1, 3, 2, 4, 6, 0, 0, 5, 7, 6, 7, 4, 7, 0]
        self.assertEqual(answers(calls), [1, 0, 1, 0, 1, 1, 3, 2, 0, 1, 2, 1, 0, 1, 0])

    def test_give_gives_back_0_alone(self):
        self.assertEqual(answers([0, 1, 3, 0, 4, 0, 0, 9, 5, 2, 3, 0, 4, 3, 0, 4, 3, 0]), [1, 0, 1, 0, 1, 0, 1, 0, 1, -17])

    def test_a_refusal_is_its_number_alone(self):
        self.assertEqual(answers([0, 2, 0, 0, 3, 0, 0]), [1, 0, 1, -2, 1, -2])
        self.assertEqual(answers([0, 4, 0, 0, 5, 16, 0, 5, 0, 32]), [1, 0, 1, -2, 1, -22, 1, -22])
        self.assertEqual(answers([0, 6, 32, 7, 32]), [1, 0, 1, -22, 1, -22])
        self.assertEqual(answers([0, 1, 16, 0, 0, 0, 0, 0, 0]), [1, 0, 1, -22])

    def test_one_answer_for_each_call(self):
        # Step 0 is there again at the end, and the add that nobody sees has cell 1.
        self.assertEqual(apart(answers(SOME_CALLS)), [
            [0], [0], [1], [-22], [2], [-16], [-2], [-1],
            [-13], [0], [1], [-17], [3], [-11], [0], [-17], [-17],
            [-2], [-1], [0, 7], [-13], [-22], [0, EVERYBODY], [0, 0], [-22], [1, 0], [2, 2, 3],
            [0], [-22], [4], [5], [0], [0], [0, 7],
        ])

    def test_a_list_of_whole_numbers_that_are_not_truths(self):
        given = answers(SOME_CALLS)
        self.assertIs(type(given), list)
        self.assertEqual({type(number) for number in given}, {int})


class KeepsNothing(unittest.TestCase):

    def test_what_is_handed_in_is_the_same_afterwards(self):
        calls = list(SOME_CALLS)
        answers(calls)
        self.assertEqual(calls, SOME_CALLS)

    def test_what_is_handed_in_is_not_changed_for_a_while_either(self):
        self.assertEqual(answers(Watched(SOME_CALLS)), answers(SOME_CALLS))

    def test_the_same_list_twice_is_answered_alike(self):
        self.assertEqual(answers(SOME_CALLS), answers(SOME_CALLS))

    def test_each_list_has_a_new_sheet(self):
        steps = flat([BEGIN] + [put(0)] * 256)
        answers(steps)
        self.assertEqual(answers(flat((BEGIN, take(0), put(0)))), [1, 0, 1, -2, 1, 0])

    def test_what_is_given_back_is_new_each_time(self):
        first = answers(SOME_CALLS)
        first.clear()
        self.assertEqual(len(apart(answers(SOME_CALLS))), 34)

    def test_nothing_is_printed(self):
        printed = io.StringIO()
        with contextlib.redirect_stdout(printed), contextlib.redirect_stderr(printed):
            answers(SOME_CALLS)
        self.assertEqual(printed.getvalue(), "")


class Watched(list):
    """A list that fails when something changes it."""

    def changed(self, *what):
        raise AssertionError("the list that was handed in is changed")

    append = clear = extend = insert = pop = remove = reverse = sort = changed
    __setitem__ = __delitem__ = __iadd__ = __imul__ = changed


class GreatestNumbers(unittest.TestCase):

    def test_each_number_of_do(self):
        for k in range(7):
            with self.subTest(k=k):
                # An if nought names v, so that may be the greatest; c is what it doesn't name.
                call = do(0, 5, a=1, b=2, v=3)
                call[k + 1] = GREATEST
                self.assertEqual(ask(call), [0 if k == 5 else -22])

    def test_each_number_of_take_all_and_give(self):
        for call in (take, all_of, give):
            with self.subTest(call=call):
                self.assertEqual(ask(put(0), call(0, who=GREATEST)), [0, -1])
                self.assertEqual(ask(put(0), call(GREATEST)), [0, -2])
                self.assertEqual(ask(put(0), call(GREATEST, who=GREATEST)), [0, -2])

    def test_each_number_of_read_seen_and_from(self):
        self.assertEqual(ask(read(0, who=GREATEST), read(GREATEST), read(GREATEST, who=GREATEST)), [-22] * 3)
        self.assertEqual(ask(seen(GREATEST), from_(GREATEST)), [-22] * 2)

    def test_the_greatest_v_is_read(self):
        self.assertEqual(told(put(31, v=GREATEST, who=15), read(31, who=15)), [[0], [0, GREATEST]])

    def test_400_calls_with_all_eight_among_them(self):
        steps = [add(0, v=GREATEST)] * 100 + [total(0, 1, 1)] * 100 + [put(k % 32, mask=1) for k in range(56)]
        asked = [give(0), take(199), give(199), all_of(255), give(255), read(1), read(1, who=1), seen(1), from_(1)]
        given = told(*steps, *asked * 15, BEGIN, *asked[:7])
        self.assertEqual(len(given), 399)
        self.assertEqual(given[:256], [[n] for n in range(256)])
        # Puts 201 and 233 are of cell 1, so it's theirs, the later one's, at the end.
        once = [[-17], [0], [0], [1], [0], [0, 7], [-13], [0, 1], [1, 233]]
        self.assertEqual(given[256:391], once * 15)
        self.assertEqual(given[391:], [[0], [-2], [-2], [-2], [-2], [-2], [0, 0], [0, 0]])

    def test_the_longest_answers(self):
        steps = [put(0)] + [total(0, 0, 0)] * 255
        given = told(*steps, *[from_(0)] * 143)
        self.assertEqual(given[256:], [[256, *range(256)]] * 143)

    def test_400_calls(self):
        steps = [add(0)] * 128 + [copy(0, 1)] * 128
        asked = [take(n) for n in range(128)] + [all_of(127 + k) for k in range(15)]
        given = ask(*steps, *asked)
        self.assertEqual(len(given), 399)
        self.assertEqual(given[:256], list(range(256)))
        self.assertEqual(given[256:], [-16] * 128 + [129] + [-17] * 14)

    def test_400_begins(self):
        self.assertEqual(answers([0] * 400), [1, 0] * 400)

    def test_400_calls_that_all_hang_on_one_another(self):
        steps = [put(0)] + [total(0, 0, 0)] * 255
        given = ask(*steps, *[take(n) for n in range(143)])
        self.assertEqual(given[256:], [-16] * 143)


if __name__ == "__main__":
    unittest.main()
