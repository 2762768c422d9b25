"""Steps: each want from 0 to 15, an answer below 0, and each want's own refusal."""

import unittest

from tests.helper import (
    AGAIN, GIVES_UP, HIGHEST, LOWEST, Line, calls, clean, ends, go, goes_on, handler, hands_out, last, new_stack,
    returns, run, sets, tells, thrown, throws, told,
)

# The highest answer that is each want, and its v.
HIGHEST_V = 134217727


def highest(want):
    return HIGHEST - 15 + want


START = run(1, 0, 0, 7, 0)


class Returns(Line):
    def test_to_outside(self):
        self.check_go([returns(0)], [START], 0, 0)
        self.check_go([highest(0)], [START], 0, HIGHEST_V)

    def test_to_the_frame_that_called(self):
        self.check_go(
            [calls(2, 5), calls(3, 6), returns(8), returns(9), returns(10)],
            [START, run(2, 0, 0, 5, 0), run(3, 0, 0, 6, 0), run(2, 1, 1, 8, 0), run(1, 1, 1, 9, 0)], 0, 10)

    def test_to_the_stack_that_waits(self):
        self.check_go(
            [new_stack(2), new_stack(3), goes_on(2, 5), returns(8), returns(9)],
            [START, run(1, 1, 7, 1, 0), run(1, 2, 7, 2, 0), run(3, 0, 0, 5, 0), run(1, 3, 5, 8, 2)], 0, 9)

    def test_acts_go_the_newest_first(self):
        self.check_go(
            [calls(2), last(3), handler(0), last(4), last(5), returns(8), 0, -7, LOWEST, returns(9)],
            [START, run(2, 0, 0, 0, 0), run(2, 1, 0, 0, 0), run(2, 2, 0, 0, 0), run(2, 3, 0, 0, 0), run(2, 4, 0, 0, 0),
             clean(5, 0), clean(4, 0), clean(3, 0), run(1, 1, 1, 8, 0)], 0, 9)

    def test_acts_of_the_frame_that_called_stay(self):
        self.check_go(
            [last(3), calls(2), returns(8), returns(9)],
            [START, run(1, 1, 0, 0, 0), run(2, 0, 0, 0, 0), run(1, 2, 1, 8, 0), clean(3, 0)], 0, 9)


class Calls(Line):
    def test_cut_off_and_rests(self):
        self.check_go([calls(65535, 2047)], [START, run(65535, 0, 0, 2047, 0), run(1, 1, 1, 0, 0)], 0, 0)
        self.check_go([highest(1)], [START, run(65535, 0, 0, 2047, 0), run(1, 1, 1, 0, 0)], 0, 0)
        self.check_go([calls(0, 1)], [START, run(0, 0, 0, 1, 0), run(1, 1, 1, 0, 0)], 0, 0)

    def test_the_frame_is_all_new(self):
        self.check_go(
            [sets(1, 5), handler(0), throws(1), calls(1), AGAIN, tells(1), GIVES_UP, returns(2), tells(1), returns(3)],
            [START, run(1, 1, 0, 0, 0), run(1, 2, 0, 0, 0), run(1, 3, 2, 0, 1), run(1, 0, 0, 0, 0), run(1, 1, 8, 10, 0),
             run(1, 2, 3, 0, 0), run(1, 3, 8, 5, 0), run(1, 4, 1, 2, 0), run(1, 5, 3, 5, 0)], 0, 3)


class Throws(Line):
    def test_cut_off_and_rests(self):
        self.check_go([throws(0, 0)], [START], 1, 0, 0, 0)
        self.check_go([throws(255, 1)], [START], 1, 255, 1, 0)
        self.check_go([throws(0, 1)], [START], 1, 0, 1, 0)
        self.check_go([highest(2)], [START], 1, 255, 524287, 0)


class Acts(Line):
    def test_handler_kind_by_rests(self):
        self.check_go(
            [handler(256 + 3), throws(3, 5), returns(1)],
            [START, run(1, 1, 0, 0, 0), run(1, 2, 2, 5, 3)], 0, 1)
        self.check_go(
            [handler(256), throws(3, 5), returns(1)],
            [START, run(1, 1, 0, 0, 0), run(1, 2, 2, 5, 3)], 0, 1)

    def test_last_function_by_rests(self):
        self.check_go([last(65536 + 9), returns(1)], [START, run(1, 1, 0, 0, 0), clean(9, 0)], 0, 1)
        self.check_go([highest(4), returns(1)], [START, run(1, 1, 0, 0, 0), clean(65535, 0)], 0, 1)

    def places(self, first, behind):
        return [run(1, place, 0, 0, 0) for place in range(first, behind)]

    def test_32_acts(self):
        self.check_go(
            [last(9)] * 31 + [handler(1), handler(2), last(8), GIVES_UP, last(8), last(8), returns(4)],
            [START] + self.places(1, 33) + [run(1, 33, 8, 3, 0), run(1, 34, 8, 4, 0), run(1, 35, 0, 0, 0),
             run(1, 36, 0, 0, 0), run(1, 37, 8, 4, 0), clean(8, 0)] + [clean(9, 0)] * 31, 0, 4)

    def test_32_acts_are_of_each_frame(self):
        self.check_go(
            [handler(9)] * 32 + [calls(2), handler(1), returns(4), returns(5)],
            [START] + self.places(1, 33) + [run(2, 0, 0, 0, 0), run(2, 1, 0, 0, 0), run(1, 33, 1, 4, 0)], 0, 5)

    def test_the_newest_goes(self):
        self.check_go(
            [last(3), handler(2), last(4), GIVES_UP, -1, GIVES_UP, GIVES_UP, 0, GIVES_UP, returns(5)],
            [START, run(1, 1, 0, 0, 0), run(1, 2, 0, 0, 0), run(1, 3, 0, 0, 0), clean(4, 0), run(1, 4, 0, 0, 0),
             run(1, 5, 0, 0, 0), clean(3, 0), run(1, 6, 0, 0, 0), run(1, 7, 8, 5, 0)], 0, 5)

    def test_a_handler_that_went_catches_nothing(self):
        self.check_go([handler(0), GIVES_UP, throws(3)], [START, run(1, 1, 0, 0, 0), run(1, 2, 0, 0, 0)], 1, 3, 0, 0)

    def test_giving_up_one_that_throws(self):
        self.check_go(
            [handler(6), last(3), last(4), GIVES_UP, thrown(6, 2), 0, returns(5)],
            [START, run(1, 1, 0, 0, 0), run(1, 2, 0, 0, 0), run(1, 3, 0, 0, 0), clean(4, 0), clean(3, 1),
             run(1, 4, 2, 2, 6)], 0, 5)

    def test_giving_up_one_that_throws_with_nobody_there(self):
        self.check_go([last(4), GIVES_UP, thrown(6, 2)], [START, run(1, 1, 0, 0, 0), clean(4, 0)], 1, 6, 2, 0)

    def test_no_act(self):
        self.check_go([GIVES_UP, 5 + 16 * 3, returns(5)], [START, run(1, 1, 8, 5, 0), run(1, 2, 8, 5, 0)], 0, 5)

    def test_v_of_5_and_10_does_not_matter(self):
        self.check_go([handler(1), highest(5)], [START, run(1, 1, 0, 0, 0), run(1, 2, 0, 0, 0)], 0, 0)
        self.check_go([handler(0), throws(3, 4), highest(10)], [START, run(1, 1, 0, 0, 0), run(1, 2, 2, 4, 3)], 1, 3, 4, 0)


class Words(Line):
    def test_they_are_0_at_first(self):
        self.check_go(
            [tells(0), tells(1), tells(2), tells(3)],
            [START, run(1, 1, 3, 0, 0), run(1, 2, 3, 0, 0), run(1, 3, 3, 0, 0), run(1, 4, 3, 0, 0)], 0, 0)

    def test_each_is_its_own(self):
        self.check_go(
            [sets(0, 5), sets(1, 6), sets(2, 7), sets(3, 33554431), tells(0), tells(1), tells(2), tells(3), tells(4 + 1),
             sets(0, 0), tells(0), highest(11), highest(12)],
            [START, run(1, 1, 0, 0, 0), run(1, 2, 0, 0, 0), run(1, 3, 0, 0, 0), run(1, 4, 0, 0, 0), run(1, 5, 3, 5, 0),
             run(1, 6, 3, 6, 0), run(1, 7, 3, 7, 0), run(1, 8, 3, 33554431, 0), run(1, 9, 3, 6, 0), run(1, 10, 0, 0, 0),
             run(1, 11, 3, 0, 0), run(1, 12, 0, 0, 0), run(1, 13, 3, 33554431, 0)], 0, 0)

    def test_they_are_of_each_frame_and_stack(self):
        self.check_go(
            [sets(0, 5), calls(1), tells(0), sets(0, 6), returns(0), tells(0), new_stack(1), goes_on(1), sets(0, 8),
             hands_out(0), tells(0), goes_on(1), tells(0)],
            [START, run(1, 1, 0, 0, 0), run(1, 0, 0, 0, 0), run(1, 1, 3, 0, 0), run(1, 2, 0, 0, 0), run(1, 2, 1, 0, 0),
             run(1, 3, 3, 5, 0), run(1, 4, 7, 1, 0), run(1, 0, 0, 0, 0), run(1, 1, 0, 0, 0), run(1, 5, 4, 0, 1),
             run(1, 6, 3, 5, 0), run(1, 2, 6, 0, 0), run(1, 3, 3, 8, 0), run(1, 7, 5, 0, 1)], 0, 0)


class NoWant(Line):
    def test_13_to_15(self):
        self.check_go(
            [13, 14, 15, highest(13), highest(14), HIGHEST],
            [START, run(1, 1, 8, 13, 0), run(1, 2, 8, 14, 0), run(1, 3, 8, 15, 0), run(1, 4, 8, 13, 0),
             run(1, 5, 8, 14, 0), run(1, 6, 8, 15, 0)], 0, 0)

    def test_below_0(self):
        self.check_go(
            [-1, -16, -15, LOWEST],
            [START, run(1, 1, 8, 15, 0), run(1, 2, 8, 15, 0), run(1, 3, 8, 15, 0), run(1, 4, 8, 15, 0)], 0, 0)


class RefusedWants(Line):
    def test_caught_nothing(self):
        self.check_go([AGAIN, handler(0), AGAIN], [START, run(1, 1, 8, 10, 0), run(1, 2, 0, 0, 0), run(1, 3, 8, 10, 0)], 0, 0)

    def test_no_such_stack_or_it_is_on(self):
        self.check_go(
            [goes_on(0), goes_on(1), ends(0), ends(1), goes_on(63), ends(63)],
            [START, run(1, 1, 8, 8, 0), run(1, 2, 8, 8, 0), run(1, 3, 8, 9, 0), run(1, 4, 8, 9, 0), run(1, 5, 8, 8, 0),
             run(1, 6, 8, 9, 0)], 0, 0)

    def test_one_that_waits_is_on(self):
        self.check_go(
            [new_stack(2), goes_on(1), goes_on(0), ends(0), ends(1), goes_on(1)],
            [START, run(1, 1, 7, 1, 0), run(2, 0, 0, 0, 0), run(2, 1, 8, 8, 0), run(2, 2, 8, 9, 0), run(2, 3, 8, 9, 0),
             run(2, 4, 8, 8, 0), run(1, 2, 5, 0, 1)], 0, 0)

    def test_nothing_changes(self):
        self.check_go(
            [sets(2, 9), last(5), 13, -1, goes_on(7), tells(2), GIVES_UP, 0, returns(4)],
            [START, run(1, 1, 0, 0, 0), run(1, 2, 0, 0, 0), run(1, 3, 8, 13, 0), run(1, 4, 8, 15, 0), run(1, 5, 8, 8, 0),
             run(1, 6, 3, 9, 0), clean(5, 0), run(1, 7, 0, 0, 0)], 0, 4)

    def test_stack_numbers_go_on_by_rests_of_64(self):
        self.check_go(
            [new_stack(2), goes_on(1, 2097151), hands_out(3), highest(8), ends(1)],
            [START, run(1, 1, 7, 1, 0), run(2, 0, 0, 2097151, 0), run(1, 2, 4, 3, 1), run(1, 3, 8, 8, 0),
             run(1, 4, 0, 0, 0)], 0, 0)

    def test_the_number_of_9_is_v_itself(self):
        self.check_go(
            [new_stack(2), ends(64 + 1), highest(9), ends(1), ends(1)],
            [START, run(1, 1, 7, 1, 0), run(1, 2, 8, 9, 0), run(1, 3, 8, 9, 0), run(1, 4, 0, 0, 0), run(1, 5, 8, 9, 0)], 0, 0)

    def test_64_stacks(self):
        replies = [new_stack(2)] * 64 + [ends(40), new_stack(65536 + 3), new_stack(4), goes_on(40, 5), returns(6)]
        asks = [START] + [run(1, n, 7, n, 0) for n in range(1, 64)] + [
            run(1, 64, 8, 7, 0), run(1, 65, 0, 0, 0), run(1, 66, 7, 40, 0), run(1, 67, 8, 7, 0), run(3, 0, 0, 5, 0),
            run(1, 68, 5, 6, 40)]
        self.check((go(1, 7, 1000, replies), told(asks, 0, 0)))


if __name__ == "__main__":
    unittest.main()
