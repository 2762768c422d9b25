"""Budgets, being stopped, and on (point 6)."""

import unittest

from tests.helper import (
    HIGHEST, LOWEST, Line, calls, clean, end, go, goes_on, handler, hands_out, hurl, last, new_stack, on, refused,
    returns, run, send, sets, tells, throws, told,
)

START = run(1, 0, 0, 7, 0)


class Budgets(Line):
    def test_none(self):
        self.check((go(1, 7, 0, [returns(4)]), told([], 3, 0)), (on(1, [returns(5)]), told([START], 0, 5)))

    def test_just_enough(self):
        self.check(
            (go(1, 7, 3, [sets(0, 5), tells(0), returns(9)]), told([START, run(1, 1, 0, 0, 0), run(1, 2, 3, 5, 0)], 0, 9)),
            (on(1), refused(-3)),
        )

    def test_one_too_few(self):
        self.check(
            (go(1, 7, 2, [sets(0, 5), tells(0), returns(9)]), told([START, run(1, 1, 0, 0, 0)], 3, 2)),
            (on(1, [returns(8)]), told([run(1, 2, 3, 5, 0)], 0, 8)),
            (on(1), refused(-3)),
        )

    def test_just_enough_for_each_end(self):
        self.check(
            (go(1, 7, 1, [returns(9)]), told([START], 0, 9)),
            (go(1, 7, 1, [throws(3, 4)]), told([START], 1, 3, 4, 0)),
            (go(1, 7, 1, [hands_out(9)]), told([START], 2, 9, 0)),
            (send(0, 5, 1, [hands_out(8)]), told([run(1, 1, 6, 5, 0)], 2, 8, 0)),
        )

    def test_last_functions_are_no_steps(self):
        self.check((go(1, 7, 3, [last(8), last(9), returns(4)]), told(
            [START, run(1, 1, 0, 0, 0), run(1, 2, 0, 0, 0), clean(9, 0), clean(8, 0)], 0, 4)))

    def test_refused_wants_are_steps(self):
        self.check((go(1, 7, 2, [13, -1]), told([START, run(1, 1, 8, 13, 0)], 3, 2)), (on(0), told([], 3, 0)))

    def test_100000_steps(self):
        self.check(
            (go(1, 7, 0), told([], 3, 0)),
            (on(100000, [-1] * 4096), told([START] + [run(1, n, 8, 15, 0) for n in range(1, 4097)], 0, 0)),
        )


class On(Line):
    def test_once_and_more_often(self):
        self.check(
            (go(1, 7, 1, [calls(2, 3)]), told([START], 3, 1)),
            (on(2, [sets(1, 6), tells(1)]), told([run(2, 0, 0, 3, 0), run(2, 1, 0, 0, 0)], 3, 2)),
            (on(0, [returns(1)]), told([], 3, 0)),
            (on(1, [handler(4)]), told([run(2, 2, 3, 6, 0)], 3, 1)),
            (on(1, [throws(4, 5)]), told([run(2, 3, 0, 0, 0)], 3, 1)),
            (on(9, [returns(8), returns(9)]), told([run(2, 4, 2, 5, 4), run(1, 1, 1, 8, 0)], 0, 9)),
            (on(1), refused(-3)),
        )

    def test_the_row_is_kept(self):
        self.check(
            (go(1, 7, 2, [new_stack(2), goes_on(1, 5)]), told([START, run(1, 1, 7, 1, 0)], 3, 2)),
            (on(1, [hands_out(6)]), told([run(2, 0, 0, 5, 0)], 3, 1)),
            (on(1, [hands_out(8)]), told([run(1, 2, 4, 6, 1)], 2, 8, 0)),
            (send(1, 3, 1, [returns(4)]), told([run(2, 1, 6, 3, 0)], 0, 4)),
        )

    def test_behind_send_and_hurl(self):
        self.check(
            (go(1, 7, 9, [handler(0), hands_out(6)]), told([START, run(1, 1, 0, 0, 0)], 2, 6, 0)),
            (send(0, 8, 0), told([], 3, 0)),
            (on(1, [hands_out(9)]), told([run(1, 2, 6, 8, 0)], 2, 9, 0)),
            (hurl(0, 4, 5, 1, [tells(0)]), told([run(1, 3, 2, 5, 4)], 3, 1)),
            (on(5, [throws(1, 2)]), told([run(1, 4, 3, 0, 0)], 1, 1, 2, 0)),
        )

    def test_a_new_stack_that_was_stopped_has_why_0_still(self):
        self.check(
            (go(1, 7, 9, [new_stack(2), returns(0)]), told([START, run(1, 1, 7, 1, 0)], 0, 0)),
            (send(1, 8, 0), told([], 3, 0)),
            (on(2, [hands_out(1)]), told([run(2, 0, 0, 8, 0)], 2, 1, 1)),
            (send(1, 9, 2, [hands_out(1)]), told([run(2, 1, 6, 9, 0)], 2, 1, 1)),
        )

    def test_replies_of_the_call_before_are_gone(self):
        self.check(
            (go(1, 7, 1, [tells(0), tells(1)]), told([START], 3, 1)),
            (on(1), told([run(1, 1, 3, 0, 0)], 0, 0)),
        )

    def test_nothing_stopped(self):
        self.check((on(0), refused(-3)), (on(100000), refused(-3)))

    def test_out_of_range_is_looked_at_first(self):
        for budget in (-1, 100001, LOWEST, HIGHEST):
            self.check(
                (on(budget), refused(-8)), (go(1, 7, 0), told([], 3, 0)), (on(budget, [returns(1)]), refused(-8)),
                (on(1, [returns(2)]), told([START], 0, 2)),
            )

    def test_end_is_refused_till_it_has_ended(self):
        self.check(
            (go(1, 7, 9, [hands_out(1)]), told([START], 2, 1, 0)),
            (go(2, 7, 0), told([], 3, 0)),
            (end(0), refused(-5)),
            (on(1), told([run(2, 0, 0, 7, 0)], 0, 0)),
            (end(0), told([], 0, 0)),
        )


if __name__ == "__main__":
    unittest.main()
