"""The interface: how calls are told in one list, and what is given back."""

import contextlib
import io
import unittest

from throwstack.desk import answers

from tests.helper import (
    HIGHEST, LOWEST, Line, acts, behind_asks, calls, causes, end, frames, go, goes_on, handler, hands_out, hurl, last,
    looks, new, new_stack, on, pieces, refused, returns, row, run, send, sets, split, thrown, throws, told,
)


# A line with all of the calls, and with refusals, stopped and not.
EVERY_CALL = (
    new([4]) + go(1, 7, 9, [last(8), throws(3, 4), thrown(5, 6)]) + causes()
    + go(1, 7, 99, [last(4), handler(0), new_stack(2), sets(1, 5)] + [calls(3)] * 8 + [hands_out(3)])
    + frames(0) + acts(0, 8, [1, 2]) + acts(0, 9) + acts(0, -1) + pieces(0) + pieces(7)
    + send(0, 1, 1, [goes_on(1)]) + row([5]) + end(0) + on(2, [handler(9), hands_out(1)]) + row() + on(9)
    + hurl(1, 9, 4, 1, [last(6)]) + on(1, [hands_out(2)]) + end(1, [thrown(1)]) + causes() + row())


# A list that may be read, but fails as soon as something in it would be changed.
class Untouched(list):
    def refuse(self, *args):
        raise AssertionError("the list was changed")

    append = extend = insert = pop = remove = clear = sort = reverse = refuse
    __setitem__ = __delitem__ = __iadd__ = __imul__ = refuse


class Form(unittest.TestCase):
    def test_new_alone(self):
        self.assertEqual(answers([1, 0]), [2, 0, 0])

    def test_each_call_has_how_many_numbers_ahead(self):
        line = [1, 0, 2, 1, 7, 5, 1, 80, 5, 0, 0]
        self.assertEqual(answers(line), [2, 0, 0, 9, 1, 0, 1, 0, 0, 7, 0, 0, 5, 2, 0, -2])

    def test_numbers_and_lists_are_plain(self):
        result = answers(EVERY_CALL)
        self.assertIs(type(result), list)
        self.assertEqual({type(number) for number in result}, {int})

    def test_what_is_handed_in_stays(self):
        line = list(EVERY_CALL)
        answers(line)
        self.assertEqual(line, EVERY_CALL)

    def test_what_is_handed_in_is_not_changed_for_a_while_either(self):
        self.assertEqual(answers(Untouched(EVERY_CALL)), answers(EVERY_CALL))

    def test_what_is_given_back_is_not_what_was_handed_in(self):
        line = [1, 0]
        answers(line).append(5)
        self.assertEqual(line, [1, 0])

    def test_the_same_list_gives_the_same_again(self):
        first = answers(EVERY_CALL)
        answers(new() + go(9, 9, 0))
        self.assertEqual(answers(EVERY_CALL), first)

    def test_nothing_is_kept_from_one_time_to_the_next(self):
        answers(new() + go(1, 7, 0))
        answers(new() + go(1, 7, 9, [throws(1)]) + go(1, 7, 9, [hands_out(1)]))
        self.assertEqual(answers(new() + on(5)), [2, 0, 0, 2, 0, -3])
        self.assertEqual(answers(new() + row() + causes()), [2, 0, 0, 2, 0, 0, 2, 0, -3])

    def test_nothing_is_printed(self):
        out = io.StringIO()
        with contextlib.redirect_stdout(out), contextlib.redirect_stderr(out):
            answers(EVERY_CALL)
        self.assertEqual(out.getvalue(), "")

    def test_all_calls_one_behind_another(self):
        self.assertEqual([behind_asks(part) for part in split(answers(EVERY_CALL))], [
            [0], [1, 5, 6, 1], [1, 5, 6, 3, 4], [2, 3, 0],
            [9] + [3, 1, 0, 0, 0, 0, 0] * 8 + [1, 5, 0, 5, 0, 0, 2], [2, 0, 0, 1, 4], [-3], [-8], [2, 0, 2], [-2],
            [3, 1], [2, 0, 1, -1, 1, 1, 0], [-5], [3, 2], [2, 0, 1, -1, 1, 0, -1], [0, 0],
            [3, 1], [2, 2, 1], [0, 1], [0, 1, 0], [0]])

    def test_300_calls(self):
        line = new() + go(1, 7, 9, [hands_out(3)])
        for count in range(149):
            line = line + row([count]) + send(0, count, 9, [hands_out(count)])
        parts = split(answers(line))
        self.assertEqual(len(parts), 300)
        for count in range(149):
            self.assertEqual(parts[2 + 2 * count], told([], 1, 0, 0, -1))
            self.assertEqual(parts[3 + 2 * count], told([run(1, 1 + count, 6, count, 0)], 2, count, 0))

    def test_a_long_answer(self):
        line = new() + go(1, 7, 100000, [calls(2)] * 2047 + [hands_out(3)]) + frames(0) * 60 + row()
        parts = split(answers(line))
        self.assertEqual([len(part) for part in parts[2:]], [14338] * 60 + [5])
        self.assertEqual(parts[-1], told([], 1, 0, 0, -1))


class Replies(Line):
    def test_used_up_replies_are_0(self):
        self.check((go(1, 7, 10, [calls(2, 3)]), told([run(1, 0, 0, 7, 0), run(2, 0, 0, 3, 0), run(1, 1, 1, 0, 0)], 0, 0)))

    def test_left_over_replies_do_not_matter(self):
        self.check(
            (go(1, 7, 10, [returns(5), calls(2), calls(3)]), told([run(1, 0, 0, 7, 0)], 0, 5)),
            (go(2, 8, 10), told([run(2, 0, 0, 8, 0)], 0, 0)),
        )

    def test_calls_that_ask_nothing_may_have_replies(self):
        self.check(
            (new([1, 2, 3]), told([], 0)),
            (end(0, [5, LOWEST]), refused(-2)),
            (on(1, [HIGHEST]), refused(-3)),
            looks(row([returns(4)]), 0),
            looks(causes([returns(4)]), -3),
            (go(1, 7, 0, [returns(5)]), told([], 3, 0)),
            (on(1), told([run(1, 0, 0, 7, 0)], 0, 0)),
        )

    def test_4096_replies_are_taken_in_order(self):
        replies = [3 + 16 * 0, 5] * 2047 + [returns(11), returns(12)]
        asks = [run(1, place, 0, 7 if place == 0 else 0, 0) for place in range(4095)]
        self.assertEqual(len(replies), 4096)
        self.check((go(1, 7, 100000, replies), told(asks, 0, 11)))


if __name__ == "__main__":
    unittest.main()
