"""give: 0, or -2, -1, -17, -11, -16."""

import unittest

from tests.helper import (
    BEGIN, GREATEST, add, all_of, ask, copy, exchange, from_, give, if_nought, last, last_told, put,
    read, take, told, total, view,
)

# A step of each kind, all on cells that older steps have fed.
FED = (put(0, v=3), add(0, v=4), put(1, v=0), put(2, v=6))
EACH_KIND = (put(0), add(0), copy(0, 1), total(0, 1, 2), exchange(0, 2), if_nought(1, 2))


class Given(unittest.TestCase):

    def test_a_step_taken_back(self):
        self.assertEqual(ask(put(0), take(0), give(0)), [0, 0, 0])

    def test_it_is_there_again(self):
        calls = (put(0), take(0), give(0))
        self.assertEqual(last(*calls, give(0)), -17)
        self.assertEqual(last(*calls, take(0)), 0)
        self.assertEqual(last_told(*calls, read(0)), [0, 7])

    def test_a_step_of_each_kind_leaves_all_as_it_was(self):
        for step in EACH_KIND:
            with self.subTest(step=step):
                calls = FED + (step,)
                self.assertEqual(last(*calls, take(4), give(4)), 0)
                self.assertEqual(view(*calls, take(4), give(4)), view(*calls))
                self.assertNotEqual(view(*calls, take(4)), view(*calls))

    def test_again_and_again(self):
        calls = (put(0), copy(0, 1))
        round_trip = (take(1), take(0), give(0), give(1))
        self.assertEqual(ask(*calls, *round_trip * 5)[2:], [0] * 20)
        self.assertEqual(view(*calls, *round_trip * 5), view(*calls))

    def test_at_its_place_and_not_behind_all(self):
        calls = (put(0, v=1), put(0, v=2), take(0), give(0), read(0), from_(0))
        self.assertEqual(told(*calls)[3:], [[0], [0, 2], [1, 1]])

    def test_its_number_stays_and_the_next_is_a_new_one(self):
        self.assertEqual(ask(put(0), put(1), take(0), give(0), put(2), take(0)), [0, 1, 0, 0, 2, 0])

    def test_after_all_what_it_hangs_on_comes_first(self):
        calls = (put(0), copy(0, 1), copy(1, 2))
        back = (all_of(0), give(2), give(1), give(0), give(2), give(1), give(2))
        self.assertEqual(ask(*calls, *back)[3:], [3, -11, -11, 0, -11, 0, 0])
        self.assertEqual(view(*calls, *back), view(*calls))

    def test_each_person_their_own(self):
        for who in range(16):
            with self.subTest(who=who):
                self.assertEqual(last(put(0, who=who), take(0, who=who), give(0, who=who)), 0)

    def test_one_who_may_not_see_the_step(self):
        self.assertEqual(ask(put(0, mask=0), take(0), give(0)), [0, 0, 0])

    def test_what_hung_on_it_once_hangs_on_it_again(self):
        calls = (put(0), copy(0, 1), take(1), take(0), give(0), give(1))
        self.assertEqual(ask(*calls, take(0), all_of(0))[4:], [0, 0, -16, 2])

    def test_a_put_given_back_feeds_what_is_done_next(self):
        calls = (put(0), put(0), take(1), give(1), copy(0, 1))
        self.assertEqual(ask(*calls, take(1), take(0))[5:], [-16, 0])

    def test_with_256_steps(self):
        calls = [put(k % 32) for k in range(256)]
        self.assertEqual(ask(*calls, take(0), take(255), give(255), give(0), put(0))[256:], [0, 0, 0, 0, -28])
        self.assertEqual(view(*calls, take(0), take(255), give(255), give(0)), view(*calls))


class DoneOver(unittest.TestCase):
    """A step given back where another has been done over it."""

    def test_a_put_over_it(self):
        calls = (put(0, v=1), take(0), put(0, v=2), give(0), read(0), from_(0))
        self.assertEqual(told(*calls)[3:], [[0], [0, 2], [1, 1]])

    def test_a_put_over_it_that_was_copied(self):
        calls = (put(0, v=1), take(0), put(0, v=2), copy(0, 1), give(0), read(1), from_(1))
        self.assertEqual(told(*calls)[4:], [[0], [0, 2], [2, 1, 2]])

    def test_each_setter_over_it_cuts_the_way(self):
        for setter in (put(5), copy(0, 5), total(0, 1, 5)):
            for step in (put(5), add(5)):
                with self.subTest(setter=setter, step=step):
                    self.assertEqual(last(step, take(0), setter, copy(5, 6), give(0)), 0)

    def test_a_setter_that_reads_it_does_not(self):
        for setter in (exchange(5, 0), exchange(0, 5), exchange(5, 5), if_nought(0, 5), total(5, 0, 5), copy(5, 5)):
            with self.subTest(setter=setter):
                self.assertEqual(last(put(5), take(0), setter, give(0)), -16)

    def test_an_add_over_it_does_not(self):
        self.assertEqual(last(put(0), take(0), add(0), copy(0, 1), give(0)), -16)
        self.assertEqual(last(add(0), take(0), add(0), copy(0, 1), give(0)), -16)

    def test_an_exchange_cut_off_by_one_of_its_cells_only(self):
        self.assertEqual(last(exchange(0, 1), take(0), put(0), copy(0, 2), give(0)), 0)
        self.assertEqual(last(exchange(0, 1), take(0), put(0), copy(1, 2), give(0)), -16)
        self.assertEqual(last(exchange(0, 1), take(0), put(1), copy(1, 2), give(0)), 0)
        self.assertEqual(last(exchange(0, 1), take(0), put(1), copy(0, 2), give(0)), -16)

    def test_a_setter_that_was_taken_back_does_not(self):
        self.assertEqual(last(put(0), take(0), put(0), take(1), copy(0, 1), give(0)), -16)

    def test_a_setter_behind_the_reader_does_not(self):
        self.assertEqual(last(put(0), take(0), copy(0, 1), put(0), give(0)), -16)

    def test_over_what_it_reads_but_behind_it(self):
        calls = (put(0, v=5), copy(0, 1), take(1), put(0, v=6), give(1), read(1))
        self.assertEqual(told(*calls)[4:], [[0], [0, 5]])


class WouldHangOtherwise(unittest.TestCase):
    """-11: what it read isn't there, or something else is."""

    def test_what_it_read_was_taken_back(self):
        for reader in (copy(0, 1), total(0, 1, 2), total(1, 0, 2), exchange(0, 1), exchange(1, 0),
                       if_nought(0, 1), if_nought(1, 0)):
            for fed_by in (put(0), add(0)):
                with self.subTest(reader=reader, fed_by=fed_by):
                    calls = (fed_by, reader, take(1), take(0), give(1), give(0), give(1))
                    self.assertEqual(ask(*calls), [0, 1, 0, 0, -11, 0, 0])

    def test_what_it_read_was_taken_back_and_the_like_done_again(self):
        self.assertEqual(last(put(0), copy(0, 1), take(1), take(0), put(0), give(1)), -11)

    def test_one_of_several_that_it_read_was_taken_back(self):
        calls = (put(0), add(0), put(1), total(0, 1, 2), take(3))
        for n in range(3):
            with self.subTest(n=n):
                self.assertEqual(ask(*calls, take(n), give(3), give(n), give(3))[5:], [0, -11, 0, 0])

    def test_an_older_put_would_be_read_instead(self):
        self.assertEqual(last(put(0), put(0), copy(0, 1), take(2), take(1), give(2)), -11)

    def test_a_put_given_back_would_be_read_instead(self):
        calls = (put(0), put(0), take(1), copy(0, 1), take(2), give(1), give(2), take(1), give(2))
        self.assertEqual(ask(*calls)[5:], [0, -11, 0, 0])

    def test_an_add_given_back_would_be_read_too(self):
        calls = (put(0), add(0), take(1), copy(0, 1), take(2), give(1), give(2), take(1), give(2))
        self.assertEqual(ask(*calls)[5:], [0, -11, 0, 0])

    def test_something_where_there_was_nothing(self):
        self.assertEqual(last(put(0), take(0), copy(0, 1), take(1), give(0), give(1)), -11)

    def test_the_same_values_do_not_help(self):
        self.assertEqual(last(put(0, v=0), copy(0, 1), take(1), take(0), give(1)), -11)
        self.assertEqual(last(put(0, v=4), put(0, v=4), copy(0, 1), take(2), take(1), give(2)), -11)

    def test_steps_that_read_nothing_never_hang_otherwise(self):
        for step in (put(0), add(0)):
            with self.subTest(step=step):
                self.assertEqual(last(put(0), step, take(1), take(0), give(1)), 0)

    def test_what_feeds_only_cells_that_it_sets_is_nothing_to_it(self):
        self.assertEqual(last(put(1), copy(0, 1), take(1), take(0), give(1)), 0)
        self.assertEqual(last(put(2), total(0, 1, 2), take(1), take(0), give(1)), 0)

    def test_what_was_put_over_ahead_of_it_is_nothing_to_it(self):
        self.assertEqual(last(put(0), put(0), copy(0, 1), take(2), take(0), give(2)), 0)

    def test_the_same_through_another_order_of_taking(self):
        calls = (put(0), put(1), total(0, 1, 2), take(2), take(0), take(1), give(2), give(1), give(2), give(0), give(2))
        self.assertEqual(ask(*calls)[6:], [-11, 0, -11, 0, 0])


class WouldBeHungOn(unittest.TestCase):
    """-16: a step that's there would hang on it."""

    def test_each_reader(self):
        for reader in (copy(0, 1), total(0, 1, 2), total(1, 0, 2), exchange(0, 1), exchange(1, 0),
                       if_nought(0, 1), if_nought(1, 0)):
            for step in (put(0), add(0)):
                with self.subTest(reader=reader, step=step):
                    self.assertEqual(ask(step, take(0), reader, give(0)), [0, 0, 1, -16])

    def test_each_setter(self):
        for setter in (put(5), add(5), copy(0, 5), total(0, 1, 5), exchange(0, 5), exchange(5, 0),
                       if_nought(0, 5)):
            with self.subTest(setter=setter):
                self.assertEqual(last(setter, take(0), copy(5, 6), give(0)), -16)

    def test_somebody_elses_reader(self):
        self.assertEqual(last(put(0), take(0), copy(0, 1, who=9), give(0)), -16)

    def test_a_reader_that_was_taken_back_is_none(self):
        self.assertEqual(ask(put(0), take(0), copy(0, 1), give(0), take(1), give(0)), [0, 0, 1, -16, 0, 0])

    def test_a_put_under_a_reader_of_an_older_put(self):
        self.assertEqual(last(put(0), put(0), take(1), copy(0, 1), give(1)), -16)

    def test_a_reader_ahead_of_it_is_none(self):
        self.assertEqual(last(copy(0, 1), put(0), take(1), give(1)), 0)

    def test_a_cell_that_is_set_only_is_not_read(self):
        self.assertEqual(last(put(2), take(0), total(0, 1, 2), give(0)), 0)

    def test_an_if_nought_that_does_nothing_reads_its_cells_all_the_same(self):
        self.assertEqual(last(put(0), put(1), take(1), if_nought(0, 1), give(1)), -16)

    def test_the_same_value_does_not_help(self):
        self.assertEqual(last(add(0, v=0), take(0), copy(0, 1), give(0)), -16)


class Refused(unittest.TestCase):

    def test_no_such_step(self):
        calls = (give(0), put(0), give(1), give(255), give(256), give(GREATEST))
        self.assertEqual(ask(*calls), [-2, 0, -2, -2, -2, -2])

    def test_somebody_elses(self):
        self.assertEqual(ask(put(0, who=1), take(0, who=1), give(0), give(0, who=15)), [0, 0, -1, -1])

    def test_nobody_above_15_has_a_step(self):
        self.assertEqual(ask(put(0), take(0), give(0, who=16), give(0, who=GREATEST)), [0, 0, -1, -1])

    def test_it_is_there(self):
        self.assertEqual(ask(put(0), give(0)), [0, -17])

    def test_it_is_there_since_it_was_given_back(self):
        self.assertEqual(ask(put(0), take(0), give(0), give(0)), [0, 0, 0, -17])

    def test_it_is_there_since_all_was_refused(self):
        self.assertEqual(ask(put(0), copy(0, 1, who=1), all_of(0), give(0)), [0, 1, -13, -17])


class TheOrderOfRefusals(unittest.TestCase):

    def test_no_such_step_ahead_of_all_others(self):
        self.assertEqual(last(put(0), give(1, who=16)), -2)
        self.assertEqual(last(give(GREATEST, who=GREATEST)), -2)

    def test_somebody_elses_ahead_of_being_there(self):
        self.assertEqual(last(put(0), give(0, who=1)), -1)

    def test_somebody_elses_ahead_of_hanging_otherwise(self):
        self.assertEqual(last(put(0), copy(0, 1), take(1), take(0), give(1, who=1)), -1)

    def test_somebody_elses_ahead_of_being_hung_on(self):
        self.assertEqual(last(put(0), take(0), copy(0, 1), give(0, who=1)), -1)
        self.assertEqual(last(put(0), take(0), copy(0, 1, who=1), give(0, who=1)), -1)

    def test_being_there_ahead_of_being_hung_on(self):
        self.assertEqual(last(put(0), copy(0, 1), give(0)), -17)

    def test_being_there_ahead_of_hanging_otherwise(self):
        # A step that's there hangs on what it hung on, so the two can't be due at once.
        self.assertEqual(last(put(0), put(0), copy(0, 1), take(0), give(2)), -17)

    def test_hanging_otherwise_ahead_of_being_hung_on(self):
        calls = (put(0), copy(0, 1), take(1), take(0), copy(1, 2), give(1))
        self.assertEqual(last(*calls), -11)
        self.assertEqual(ask(*calls, give(0), give(1), take(2), give(1))[6:], [0, -16, 0, 0])


class RefusalsChangeNothing(unittest.TestCase):

    def test_whichever_way_it_is_refused(self):
        calls = (put(0), copy(0, 1), copy(1, 2), put(3), take(2), take(1), take(0), copy(2, 4), put(5), take(5),
                 copy(5, 6))
        for call, refusal in ((give(99), -2), (give(0, who=1), -1), (give(3), -17), (give(1), -11), (give(5), -16)):
            with self.subTest(call=call):
                self.assertEqual(last(*calls, call), refusal)
                self.assertEqual(view(*calls, call), view(*calls))

    def test_what_would_hang_otherwise_stays_taken_back(self):
        self.assertEqual(ask(put(0), copy(0, 1), take(1), take(0), give(1), take(1))[4:], [-11, -17])

    def test_what_would_be_hung_on_stays_taken_back(self):
        self.assertEqual(ask(put(0), take(0), copy(0, 1), give(0), take(0), take(1))[3:], [-16, -17, 0])


class BeginAgain(unittest.TestCase):

    def test_what_was_taken_back_can_not_be_given_back(self):
        self.assertEqual(ask(put(0), take(0), BEGIN, give(0)), [0, 0, 0, -2])

    def test_after_a_give(self):
        self.assertEqual(told(put(0), take(0), give(0), BEGIN, read(0), give(0), put(0))[3:], [[0], [0, 0], [-2], [0]])


if __name__ == "__main__":
    unittest.main()
