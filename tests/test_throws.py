"""How throws go on: handlers, last functions, causes, and the stacks that wait."""

import unittest

from tests.helper import (
    AGAIN, GIVES_UP, Line, calls, clean, end, ends, go, goes_on, handler, hands_out, hurl, last, new_stack, on,
    returns, run, send, thrown, throws, told,
)

START = run(1, 0, 0, 7, 0)


def acts(count, first=1):
    return [run(1, place, 0, 0, 0) for place in range(first, first + count)]


class Handlers(Line):
    def test_of_its_kind(self):
        self.check_go([handler(3), throws(3, 5), returns(9)], [START] + acts(1) + [run(1, 2, 2, 5, 3)], 0, 9)

    def test_of_every_kind(self):
        for kind in (0, 1, 255):
            self.check_go([handler(0), throws(kind, 5), returns(9)], [START] + acts(1) + [run(1, 2, 2, 5, kind)], 0, 9)

    def test_of_another_kind_is_gone(self):
        self.check_go([handler(3), throws(4, 5)], [START] + acts(1), 1, 4, 5, 0)

    def test_kind_0_is_caught_by_every_kind_alone(self):
        self.check_go([handler(0), handler(255), throws(0, 5)], [START] + acts(2) + [run(1, 3, 2, 5, 0)], 0, 0)

    def test_those_passed_and_the_one_that_caught_are_gone(self):
        self.check_go(
            [handler(1), handler(3), handler(4), handler(5), throws(3, 5), throws(4, 6)],
            [START] + acts(4) + [run(1, 5, 2, 5, 3)], 1, 4, 6, 0)

    def test_the_older_ones_stay(self):
        self.check_go(
            [handler(4), handler(3), throws(3, 5), throws(4, 6), GIVES_UP],
            [START] + acts(2) + [run(1, 3, 2, 5, 3), run(1, 4, 2, 6, 4), run(1, 5, 8, 5, 0)], 0, 0)

    def test_in_the_frame_that_called(self):
        self.check_go(
            [handler(3), calls(2), calls(4), throws(3, 5), returns(9)],
            [START] + acts(1) + [run(2, 0, 0, 0, 0), run(4, 0, 0, 0, 0), run(1, 2, 2, 5, 3)], 0, 9)


class LastFunctions(Line):
    def test_done_on_the_way_the_newest_first(self):
        self.check_go(
            [last(11), handler(3), last(12), calls(2), last(13), last(14), throws(3, 5), 0, 0, 0, returns(9)],
            [START] + acts(2) + [run(1, 3, 0, 0, 0), run(2, 0, 0, 0, 0), run(2, 1, 0, 0, 0), run(2, 2, 0, 0, 0),
             clean(14, 1), clean(13, 1), clean(12, 1), run(1, 4, 2, 5, 3), clean(11, 0)], 0, 9)

    def test_one_behind_the_handler_is_not_done(self):
        self.check_go([last(11), handler(3), throws(3, 5), 13], [START] + acts(2) + [run(1, 3, 2, 5, 3), run(1, 4, 8, 13, 0), clean(11, 0)], 0, 0)

    def test_its_throw_takes_the_place(self):
        self.check_go(
            [handler(3), handler(4), last(11), throws(3, 5), thrown(4, 6), AGAIN],
            [START] + acts(3) + [clean(11, 1), run(1, 4, 2, 6, 4)], 1, 4, 6, 1)

    def test_its_throw_passes_the_handler_of_the_first(self):
        self.check_go(
            [handler(4), handler(3), last(11), throws(3, 5), thrown(4, 6), returns(9)],
            [START] + acts(3) + [clean(11, 1), run(1, 4, 2, 6, 4)], 0, 9)

    def test_causes_add_up(self):
        self.check_go(
            [last(11), last(12), calls(2), last(13), throws(3, 5), thrown(4, 6), 0, thrown(5, 7)],
            [START] + acts(1) + [run(1, 2, 0, 0, 0), run(2, 0, 0, 0, 0), run(2, 1, 0, 0, 0), clean(13, 1), clean(12, 1),
             clean(11, 1)], 1, 5, 7, 2)

    def test_rests_and_cut_off_of_the_answer(self):
        self.check_go([last(11), throws(3), 1], [START] + acts(1) + [clean(11, 1)], 1, 1, 0, 1)
        self.check_go([last(11), throws(3), 256], [START] + acts(1) + [clean(11, 1)], 1, 0, 1, 1)
        self.check_go([last(11), throws(3), 2147483647], [START] + acts(1) + [clean(11, 1)], 1, 255, 8388607, 1)
        self.check_go([last(11), throws(3), 0], [START] + acts(1) + [clean(11, 1)], 1, 3, 0, 0)
        self.check_go([last(11), throws(3), -2147483648], [START] + acts(1) + [clean(11, 1)], 1, 3, 0, 0)

    def test_16_causes_at_most(self):
        for count in (15, 16, 17, 31):
            self.check_go(
                [last(11)] * count + [throws(3)] + [thrown(4)] * count,
                [START] + acts(count) + [clean(11, 1)] * count, 1, 4, 0, min(count, 16))

    def test_32_last_functions_without_a_throw_of_their_own(self):
        self.check_go([last(11)] * 32 + [throws(3)], [START] + acts(32) + [clean(11, 1)] * 32, 1, 3, 0, 0)


class ThrowWhileReturning(Line):
    def test_it_goes_on_with_the_acts_that_are_left(self):
        self.check_go(
            [last(11), last(12), last(13), returns(9), 0, thrown(4, 6), 0],
            [START] + acts(3) + [clean(13, 0), clean(12, 0), clean(11, 1)], 1, 4, 6, 0)

    def test_a_handler_that_is_left_catches_it(self):
        self.check_go(
            [last(10), handler(4), last(11), handler(4), last(12), returns(9), 0, thrown(4, 6), returns(8), 0],
            [START] + acts(5) + [clean(12, 0), clean(11, 0), run(1, 6, 2, 6, 4), clean(10, 0)], 0, 8)

    def test_the_frame_that_called_catches_it(self):
        self.check_go(
            [handler(0), calls(2), last(11), last(12), returns(9), thrown(4, 6), thrown(5, 7), AGAIN],
            [START] + acts(1) + [run(2, 0, 0, 0, 0), run(2, 1, 0, 0, 0), run(2, 2, 0, 0, 0), clean(12, 0), clean(11, 1),
             run(1, 2, 2, 7, 5)], 1, 5, 7, 1)


class ThrowWhileGivenUp(Line):
    def test_it_goes_on_with_the_acts_that_are_left(self):
        self.check_go(
            [handler(4), last(11), last(12), GIVES_UP, thrown(3, 6), thrown(4, 8), AGAIN],
            [START] + acts(3) + [clean(12, 0), clean(11, 1), run(1, 4, 2, 8, 4)], 1, 4, 8, 1)


class Again(Line):
    def test_with_its_causes(self):
        self.check_go(
            [handler(0), last(11), last(12), throws(3, 5), thrown(4, 6), thrown(5, 7), AGAIN],
            [START] + acts(3) + [clean(12, 1), clean(11, 1), run(1, 4, 2, 7, 5)], 1, 5, 7, 2)

    def test_what_was_caught_last(self):
        self.check_go(
            [handler(0), handler(0), throws(3, 5), throws(4, 6), AGAIN],
            [START] + acts(2) + [run(1, 3, 2, 5, 3), run(1, 4, 2, 6, 4)], 1, 4, 6, 0)

    def test_it_is_still_caught_there(self):
        self.check_go(
            [handler(0), handler(0), handler(0), throws(3, 5), AGAIN, AGAIN, AGAIN],
            [START] + acts(3) + [run(1, 4, 2, 5, 3), run(1, 5, 2, 5, 3), run(1, 6, 2, 5, 3)], 1, 3, 5, 0)

    def test_a_last_function_that_throws_then_has_it_as_cause(self):
        self.check_go(
            [handler(0), throws(3, 5), last(11), AGAIN, thrown(4, 6)],
            [START] + acts(1) + [run(1, 2, 2, 5, 3), run(1, 3, 0, 0, 0), clean(11, 1)], 1, 4, 6, 1)

    def test_each_frame_has_its_own(self):
        self.check_go(
            [handler(0), handler(0), throws(3, 5), calls(2), AGAIN, handler(0), throws(4, 6), returns(0), AGAIN, AGAIN],
            [START] + acts(2) + [run(1, 3, 2, 5, 3), run(2, 0, 0, 0, 0), run(2, 1, 8, 10, 0), run(2, 2, 0, 0, 0),
             run(2, 3, 2, 6, 4), run(1, 4, 1, 0, 0), run(1, 5, 2, 5, 3)], 1, 3, 5, 0)


class AcrossStacks(Line):
    def test_it_goes_on_in_the_one_that_waits(self):
        self.check_go(
            [handler(3), new_stack(2), goes_on(1), last(11), throws(3, 5), 0, goes_on(1), new_stack(4)],
            [START] + acts(1) + [run(1, 2, 7, 1, 0), run(2, 0, 0, 0, 0), run(2, 1, 0, 0, 0), clean(11, 1),
             run(1, 3, 2, 5, 3), run(1, 4, 8, 8, 0), run(1, 5, 7, 1, 0)], 0, 0)

    def test_through_stacks_that_wait_for_one_another(self):
        self.check_go(
            [new_stack(2), last(11), goes_on(1), new_stack(3), last(12), goes_on(2), throws(3, 5), thrown(4, 6), thrown(5, 7)],
            [START, run(1, 1, 7, 1, 0), run(1, 2, 0, 0, 0), run(2, 0, 0, 0, 0), run(2, 1, 7, 2, 0), run(2, 2, 0, 0, 0),
             run(3, 0, 0, 0, 0), clean(12, 1), clean(11, 1)], 1, 5, 7, 2)

    def test_all_of_them_are_ended(self):
        self.check(
            (go(1, 7, 9, [new_stack(2), goes_on(1), throws(3)]), told(
                [START, run(1, 1, 7, 1, 0), run(2, 0, 0, 0, 0)], 1, 3, 0, 0)),
            (send(0, 1, 1), told([], -2)), (send(1, 1, 1), told([], -2)), (on(1), told([], -3)),
        )

    def test_a_throw_while_a_stack_returns(self):
        self.check_go(
            [handler(4), new_stack(2), goes_on(1), last(11), returns(9), thrown(4, 6), returns(8)],
            [START] + acts(1) + [run(1, 2, 7, 1, 0), run(2, 0, 0, 0, 0), run(2, 1, 0, 0, 0), clean(11, 0),
             run(1, 3, 2, 6, 4)], 0, 8)

    def test_hurled_into_a_stack_that_waits_for_nobody(self):
        self.check(
            (go(1, 7, 9, [new_stack(2), goes_on(1), handler(3), hands_out(5), hands_out(6)]), told(
                [START, run(1, 1, 7, 1, 0), run(2, 0, 0, 0, 0), run(2, 1, 0, 0, 0), run(1, 2, 4, 5, 1)], 2, 6, 0)),
            (hurl(1, 3, -4, 9, [throws(8, 9)]), told([run(2, 2, 2, -4, 3)], 1, 8, 9, 0)),
            (send(0, 4, 9, [returns(2)]), told([run(1, 3, 6, 4, 0)], 0, 2)),
        )


class Ending(Line):
    def made(self, replies, asks):
        start = [new_stack(2), goes_on(1), last(11), handler(0), calls(3), last(12), last(13), hands_out(0)]
        first = [START, run(1, 1, 7, 1, 0), run(2, 0, 0, 0, 0), run(2, 1, 0, 0, 0), run(2, 2, 0, 0, 0), run(3, 0, 0, 0, 0),
                 run(3, 1, 0, 0, 0), run(3, 2, 0, 0, 0), run(1, 2, 4, 0, 1)]
        return start + replies, first + asks

    def test_last_functions_with_why_2(self):
        replies, asks = self.made(
            [ends(1), 0, -1, 0, goes_on(1)],
            [clean(13, 2), clean(12, 2), clean(11, 2), run(1, 3, 0, 0, 0), run(1, 4, 8, 8, 0)])
        self.check_go(replies, asks, 0, 0)

    def test_the_last_throw_is_thrown_here(self):
        replies, asks = self.made(
            [handler(5), ends(1), thrown(3, 4), thrown(4, 5), thrown(5, 6), AGAIN],
            [run(1, 3, 0, 0, 0), clean(13, 2), clean(12, 2), clean(11, 2), run(1, 4, 2, 6, 5)])
        self.check_go(replies, asks, 1, 5, 6, 2)

    def test_one_throw_among_them(self):
        replies, asks = self.made(
            [last(14), ends(1), 0, thrown(4, 5), 0, 0],
            [run(1, 3, 0, 0, 0), clean(13, 2), clean(12, 2), clean(11, 2), clean(14, 1)])
        self.check_go(replies, asks, 1, 4, 5, 0)

    def test_handlers_there_catch_nothing(self):
        replies, asks = self.made(
            [ends(1), thrown(3, 4)], [clean(13, 2), clean(12, 2), clean(11, 2)])
        self.check_go(replies, asks, 1, 3, 4, 0)

    def test_16_causes_at_most(self):
        for count in (16, 17, 18, 32):
            start = [new_stack(2), goes_on(1)] + [last(11)] * count + [hands_out(0), ends(1)] + [thrown(3)] * count
            asks = [START, run(1, 1, 7, 1, 0)] + [run(2, place, 0, 0, 0) for place in range(count + 1)] + [
                run(1, 2, 4, 0, 1)] + [clean(11, 2)] * count
            self.check_go(start, asks, 1, 3, 0, min(count - 1, 16))

    def test_from_outside(self):
        self.check(
            (go(1, 7, 9, [last(11), handler(0), hands_out(2)]), told([START] + acts(2), 2, 2, 0)),
            (end(0, [thrown(4, 5)]), told([clean(11, 2)], 0, 1)),
        )


class Deep(Line):
    def test_a_throw_through_2048_frames(self):
        count = 2047
        replies = [handler(3)] + [calls(2)] * count + [throws(3, 5), returns(9)]
        asks = [START] + acts(1) + [run(2, 0, 0, 0, 0)] * count + [run(1, 2, 2, 5, 3)]
        self.check((go(1, 7, 100000, replies), told(asks, 0, 9)))

    def test_returns_through_2048_frames(self):
        count = 2047
        asks = [START] + [run(2, 0, 0, 0, 0)] * count + [run(2, 1, 1, 0, 0)] * (count - 1) + [run(1, 1, 1, 0, 0)]
        self.check((go(1, 7, 100000, [calls(2)] * count), told(asks, 0, 0)))

    def test_the_end_of_2048_frames(self):
        count = 1360
        replies = [number for step in range(count) for number in (last(11), calls(1))] + [hands_out(1)]
        asks = [run(1, place, 0, 7 if step + place == 0 else 0, 0) for step in range(count) for place in (0, 1)]
        asks = asks + [run(1, 0, 0, 0, 0)]
        self.check(
            (go(1, 7, 100000, replies), told(asks, 2, 1, 0)),
            (end(0, [1] * count), told([clean(11, 2)] * count, 0, count)),
        )

    def test_a_throw_through_64_stacks(self):
        replies = [number for k in range(1, 64) for number in (last(k), new_stack(2), goes_on(k))] + [throws(3, 5)]
        asks = []
        for k in range(1, 64):
            f, x = (1, 7) if k == 1 else (2, 0)
            asks = asks + [run(f, 0, 0, x, 0), run(f, 1, 0, 0, 0), run(f, 2, 7, k, 0)]
        asks = asks + [run(2, 0, 0, 0, 0)] + [clean(k, 1) for k in range(63, 0, -1)]
        self.check((go(1, 7, 100000, replies), told(asks, 1, 3, 5, 0)))


if __name__ == "__main__":
    unittest.main()
