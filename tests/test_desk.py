"""The interface: how calls are told in one list, and what is given back."""

import contextlib
import io
import unittest

from throwstack.desk import answers

from tests.helper import (
    HIGHEST, LOWEST, Line, calls, end, go, handler, hands_out, hurl, last, new, on, refused, returns, run, send,
    told,
)


class Form(unittest.TestCase):
    def test_new_alone(self):
        self.assertEqual(answers([1, 0]), [2, 0, 0])

    def test_each_call_has_how_many_numbers_ahead(self):
        line = [1, 0, 2, 1, 7, 5, 1, 80, 5, 0, 0]
        self.assertEqual(answers(line), [2, 0, 0, 9, 1, 0, 1, 0, 0, 7, 0, 0, 5, 2, 0, -2])

    def test_numbers_and_lists_are_plain(self):
        result = answers([1, 0, 2, 1, 7, 5, 1, 80])
        self.assertIs(type(result), list)
        self.assertEqual({type(number) for number in result}, {int})

    def test_what_is_handed_in_stays(self):
        line = new() + go(1, 7, 5, [last(4), handler(0), hands_out(3)]) + send(0, 1, 1) + on(9) + end(0)
        before = list(line)
        answers(line)
        self.assertEqual(line, before)

    def test_what_is_given_back_is_not_what_was_handed_in(self):
        line = [1, 0]
        answers(line).append(5)
        self.assertEqual(line, [1, 0])

    def test_the_same_list_gives_the_same_again(self):
        line = new() + go(1, 7, 3, [calls(2), handler(3), hands_out(1)]) + hurl(0, 3, 4, 1)
        first = answers(line)
        answers(new() + go(9, 9, 1))
        self.assertEqual(answers(line), first)

    def test_nothing_is_kept_from_one_time_to_the_next(self):
        answers(new() + go(1, 7, 0))
        self.assertEqual(answers(new() + on(5)), [2, 0, 0, 2, 0, -3])

    def test_nothing_is_printed(self):
        out = io.StringIO()
        with contextlib.redirect_stdout(out), contextlib.redirect_stderr(out):
            answers(new() + go(1, 7, 5, [hands_out(2)]) + end(0))
        self.assertEqual(out.getvalue(), "")


class Replies(Line):
    def test_used_up_replies_are_0(self):
        self.check((go(1, 7, 10, [calls(2, 3)]), told([run(1, 0, 0, 7, 0), run(2, 0, 0, 3, 0), run(1, 1, 1, 0, 0)], 0, 0)))

    def test_left_over_replies_do_not_matter(self):
        self.check(
            (go(1, 7, 10, [returns(5), calls(2), calls(3)]), told([run(1, 0, 0, 7, 0)], 0, 5)),
            (go(2, 8, 10), told([run(2, 0, 0, 8, 0)], 0, 0)),
        )

    def test_calls_that_ask_nothing_may_have_replies(self):
        self.check(
            (new([1, 2, 3]), told([], 0)),
            (end(0, [5, LOWEST]), refused(-2)),
            (on(1, [HIGHEST]), refused(-3)),
            (go(1, 7, 0, [returns(5)]), told([], 3, 0)),
            (on(1), told([run(1, 0, 0, 7, 0)], 0, 0)),
        )

    def test_4096_replies_are_taken_in_order(self):
        replies = [3 + 16 * 0, 5] * 2047 + [returns(11), returns(12)]
        asks = [run(1, place, 0, 7 if place == 0 else 0, 0) for place in range(4095)]
        self.assertEqual(len(replies), 4096)
        self.check((go(1, 7, 100000, replies), told(asks, 0, 11)))


if __name__ == "__main__":
    unittest.main()
