"""Points 1 to 6: what each call answers, and its refusals in their order."""

import unittest

from tests.helper import (
    HIGHEST, LOWEST, Line, calls, clean, each_told, end, ends, goes_on, go, handler, hands_out, hurl, last, new,
    new_stack, on, refused, returns, run, send, tells, thrown, throws, told,
)

from throwstack.asking import Asks
from throwstack.keeping import Keep
from throwstack.outside import do_call


def cut(f, k):
    return (go(f, 7, 9, [hands_out(3)]), told([run(f, 0, 0, 7, 0)], 2, 3, k))


def stopped(f):
    return (go(f, 7, 0), told([], 3, 0))


class New(Line):
    def test_no_stack_is_left(self):
        self.check(cut(1, 0), cut(2, 1), (new(), told([], 0)), (send(0, 1, 1), refused(-2)), cut(3, 0))

    def test_nothing_stopped_is_left(self):
        self.check(stopped(1), (new(), told([], 0)), (on(1), refused(-3)), cut(2, 0))

    def test_pieces_are_free_again(self):
        deep = [calls(2)] * 2047
        line = (new(), go(1, 7, 2047, deep), new(), go(1, 7, 2048, deep + [calls(2)]), on(1))
        parts = each_told(*line)
        self.assertEqual(parts[1][-2:], [3, 2047])
        self.assertEqual(parts[3][-2:], [3, 2048])
        self.assertEqual(parts[4], told([run(2, 1, 8, 1, 0)], 3, 1))

    def test_no_uncaught_one_is_left(self):
        keep = Keep()
        do_call(keep, Asks([throws(3, 4)]), 2, [1, 7, 5])
        self.assertEqual((keep.uncaught.kind, keep.uncaught.value), (3, 4))
        do_call(keep, Asks([]), 1, [])
        self.assertIsNone(keep.uncaught)


class Go(Line):
    def test_returned(self):
        self.check((go(1, 7, 5, [returns(9)]), told([run(1, 0, 0, 7, 0)], 0, 9)))

    def test_thrown(self):
        self.check((go(1, 7, 5, [throws(3, 9)]), told([run(1, 0, 0, 7, 0)], 1, 3, 9, 0)))

    def test_handed_out(self):
        self.check(cut(5, 0), cut(6, 1), cut(7, 2))

    def test_stopped(self):
        self.check((go(1, 7, 1, [tells(0)]), told([run(1, 0, 0, 7, 0)], 3, 1)))

    def test_ends_of_ranges(self):
        self.check(
            (go(0, LOWEST, 100000), told([run(0, 0, 0, LOWEST, 0)], 0, 0)),
            (go(65535, HIGHEST, 1), told([run(65535, 0, 0, HIGHEST, 0)], 0, 0)),
        )

    def test_out_of_range(self):
        for f, budget in ((-1, 5), (65536, 5), (LOWEST, 5), (HIGHEST, 5), (1, -1), (1, 100001), (1, LOWEST), (1, HIGHEST)):
            self.check((go(f, 7, budget, [returns(5)]), refused(-8)), (on(1), refused(-3)), cut(1, 0))

    def test_refused_while_stopped(self):
        self.check(stopped(1), (go(2, 8, 5), refused(-5)), (on(5, [returns(4)]), told([run(1, 0, 0, 7, 0)], 0, 4)))

    def test_out_of_range_is_looked_at_first(self):
        self.check(stopped(1), (go(65536, 8, 5), refused(-8)), (go(2, 8, -1), refused(-8)))

    def test_64_stacks(self):
        full = [cut(f, f) for f in range(64)]
        self.check(*full, (go(1, 7, 5), refused(-4)), (end(9), told([], 0, 0)), cut(1, 9), (go(1, 7, 5), refused(-4)))

    def test_numbers_outside_are_no_stacks_among_64(self):
        full = [cut(f, f) for f in range(64)]
        for k in (-1, -64, 64):
            self.check(*full, (send(k, 8, 5), refused(-2)), (hurl(k, 1, 8, 5), refused(-2)), (end(k), refused(-2)))

    def test_64_stacks_come_last(self):
        full = [cut(f, f) for f in range(63)]
        self.check(*full, stopped(1), (go(1, 7, 100001), refused(-8)), (go(1, 7, 5), refused(-5)))

    def test_no_piece(self):
        parts = each_told(
            new(), go(1, 7, 2048, [calls(2)] * 2047 + [hands_out(5)]), go(3, 7, 5), send(0, 4, 2, [tells(0)]),
            go(3, 7, 5), new(), go(3, 7, 5),
        )
        self.assertEqual(parts[1][-3:], [2, 5, 0])
        self.assertEqual(parts[2], refused(-4))
        self.assertEqual(parts[3], told([run(2, 1, 6, 4, 0), run(2, 2, 3, 0, 0)], 3, 2))
        self.assertEqual(parts[4], refused(-5))
        self.assertEqual(parts[6], told([run(3, 0, 0, 7, 0)], 0, 0))

    def test_one_piece_left(self):
        parts = each_told(
            new(), go(1, 7, 2048, [calls(2)] * 2039 + [hands_out(5)]), go(3, 7, 5, [hands_out(6)]), go(4, 7, 5),
        )
        self.assertEqual(parts[2], told([run(3, 0, 0, 7, 0)], 2, 6, 1))
        self.assertEqual(parts[3], refused(-4))


class Send(Line):
    def test_first_ask_behind_a_hand_out(self):
        self.check(cut(1, 0), (send(0, 8, 5, [returns(9)]), told([run(1, 1, 6, 8, 0)], 0, 9)), (send(0, 8, 5), refused(-2)))

    def test_new_stack_is_sent_to_with_why_0_then_6(self):
        self.check(
            (go(1, 7, 9, [new_stack(5), hands_out(0)]), told([run(1, 0, 0, 7, 0), run(1, 1, 7, 1, 0)], 2, 0, 0)),
            (send(1, 8, 9, [hands_out(2)]), told([run(5, 0, 0, 8, 0)], 2, 2, 1)),
            (send(1, LOWEST, 9, [hands_out(3)]), told([run(5, 1, 6, LOWEST, 0)], 2, 3, 1)),
            (send(1, HIGHEST, 9, [hands_out(4)]), told([run(5, 2, 6, HIGHEST, 0)], 2, 4, 1)),
        )

    def test_it_is_alone(self):
        self.check(
            (go(1, 7, 9, [new_stack(5), goes_on(1, 3), hands_out(2), hands_out(0)]), told(
                [run(1, 0, 0, 7, 0), run(1, 1, 7, 1, 0), run(5, 0, 0, 3, 0), run(1, 2, 4, 2, 1)], 2, 0, 0)),
            (send(1, 8, 9, [returns(6)]), told([run(5, 1, 6, 8, 0)], 0, 6)),
            (send(0, 9, 9, [throws(1)]), told([run(1, 3, 6, 9, 0)], 1, 1, 0, 0)),
        )

    def test_no_such_stack(self):
        for k in (-1, 1, 63, 64, LOWEST, HIGHEST):
            self.check(cut(1, 0), (send(k, 8, 5, [returns(1)]), refused(-2)), (send(0, 8, 5), told([run(1, 1, 6, 8, 0)], 0, 0)))

    def test_order_of_refusals(self):
        for budget in (-1, 100001):
            self.check((send(5, 8, budget), refused(-8)), stopped(1), (send(5, 8, budget), refused(-8)))
        self.check(stopped(1), (send(5, 8, 5), refused(-5)), (send(0, 8, 5), refused(-5)))


class Hurl(Line):
    def test_nobody_catches(self):
        self.check(cut(1, 0), (hurl(0, 255, HIGHEST, 5), told([], 1, 255, HIGHEST, 0)), (send(0, 1, 1), refused(-2)))

    def test_caught(self):
        self.check(
            (go(1, 7, 9, [handler(4), hands_out(3)]), told([run(1, 0, 0, 7, 0), run(1, 1, 0, 0, 0)], 2, 3, 0)),
            (hurl(0, 4, LOWEST, 5, [returns(2)]), told([run(1, 2, 2, LOWEST, 4)], 0, 2)),
        )

    def test_passes_other_handlers_and_frames(self):
        self.check(
            (go(1, 7, 9, [handler(0), calls(2), last(9), handler(5), hands_out(3)]), told(
                [run(1, 0, 0, 7, 0), run(1, 1, 0, 0, 0), run(2, 0, 0, 0, 0), run(2, 1, 0, 0, 0), run(2, 2, 0, 0, 0)], 2, 3, 0)),
            (hurl(0, 4, 6, 5, [0, hands_out(8)]), told([clean(9, 1), run(1, 2, 2, 6, 4)], 2, 8, 0)),
        )

    def test_a_new_stack_ends_with_nothing_asked(self):
        self.check(
            (go(1, 7, 9, [new_stack(5), returns(0)]), told([run(1, 0, 0, 7, 0), run(1, 1, 7, 1, 0)], 0, 0)),
            (hurl(1, 0, -5, 9, [returns(3)]), told([], 1, 0, -5, 0)),
        )

    def test_causes(self):
        self.check(
            (go(1, 7, 9, [last(9), last(8), hands_out(3)]), told([run(1, 0, 0, 7, 0), run(1, 1, 0, 0, 0), run(1, 2, 0, 0, 0)], 2, 3, 0)),
            (hurl(0, 4, 6, 5, [thrown(1, 2), thrown(3, 4)]), told([clean(8, 1), clean(9, 1)], 1, 3, 4, 2)),
        )

    def test_the_throw_is_no_step(self):
        self.check(
            (go(1, 7, 9, [handler(4), last(9), hands_out(3)]), told([run(1, 0, 0, 7, 0), run(1, 1, 0, 0, 0), run(1, 2, 0, 0, 0)], 2, 3, 0)),
            (hurl(0, 4, 6, 0), told([clean(9, 1)], 3, 0)),
            (on(1, [returns(2)]), told([run(1, 3, 2, 6, 4)], 0, 2)),
            cut(2, 0),
            (hurl(0, 4, 6, 0), told([], 1, 4, 6, 0)),
        )

    def test_out_of_range(self):
        for kind, budget in ((-1, 5), (256, 5), (LOWEST, 5), (HIGHEST, 5), (1, -1), (1, 100001)):
            self.check(
                (hurl(9, kind, 6, budget), refused(-8)), cut(1, 0), (hurl(0, kind, 6, budget), refused(-8)),
                (send(0, 8, 5), told([run(1, 1, 6, 8, 0)], 0, 0)), stopped(1), (hurl(0, kind, 6, budget), refused(-8)),
            )

    def test_no_such_stack(self):
        for k in (-1, 1, 63, 64, LOWEST, HIGHEST):
            self.check(cut(1, 0), (hurl(k, 4, 8, 5, [1]), refused(-2)), (send(0, 8, 5), told([run(1, 1, 6, 8, 0)], 0, 0)))

    def test_refused_while_stopped(self):
        self.check(stopped(1), (hurl(5, 4, 8, 5), refused(-5)), (hurl(0, 4, 8, 5), refused(-5)))


class End(Line):
    def test_nothing_to_do(self):
        self.check(cut(1, 0), (end(0, [1]), told([], 0, 0)), (end(0), refused(-2)), cut(2, 0))

    def test_last_functions_of_all_frames(self):
        self.check(
            (go(1, 7, 9, [last(8), handler(0), calls(2), last(9), last(10), hands_out(3)]), told([
                run(1, 0, 0, 7, 0), run(1, 1, 0, 0, 0), run(1, 2, 0, 0, 0), run(2, 0, 0, 0, 0), run(2, 1, 0, 0, 0),
                run(2, 2, 0, 0, 0)], 2, 3, 0)),
            (end(0, [thrown(1), -5, thrown(2)]), told([clean(10, 2), clean(9, 2), clean(8, 2)], 0, 2)),
            (send(0, 1, 1), refused(-2)),
        )

    def test_more_throws_than_causes_are_counted(self):
        self.check(
            (go(1, 7, 99, [last(9)] * 20 + [hands_out(3)]), told([run(1, place, 0, 7 if place == 0 else 0, 0) for place in range(21)], 2, 3, 0)),
            (end(0, [1] * 20), told([clean(9, 2)] * 20, 0, 20)),
        )

    def test_new_stack(self):
        self.check(
            (go(1, 7, 9, [new_stack(5), returns(0)]), told([run(1, 0, 0, 7, 0), run(1, 1, 7, 1, 0)], 0, 0)),
            (end(1), told([], 0, 0)),
            (end(1), refused(-2)),
        )

    def test_no_such_stack(self):
        for k in (-1, 1, 63, 64, LOWEST, HIGHEST):
            self.check(cut(1, 0), (end(k, [1]), refused(-2)), (send(0, 8, 5), told([run(1, 1, 6, 8, 0)], 0, 0)))

    def test_refused_while_stopped(self):
        self.check(stopped(1), (end(5), refused(-5)), (end(0), refused(-5)), (on(1), told([run(1, 0, 0, 7, 0)], 0, 0)))

    def test_a_cut_stack_while_another_is_stopped(self):
        self.check(cut(1, 0), stopped(2), (end(0), refused(-5)), (send(0, 1, 1), refused(-5)), (hurl(0, 1, 1, 1), refused(-5)))


class Uncaught(unittest.TestCase):
    def after(self, *steps):
        keep = Keep()
        for call, numbers, replies in steps:
            do_call(keep, Asks(replies), call, numbers)
        one = keep.uncaught
        return None if one is None else (one.kind, one.value, one.causes)

    def test_none_at_first(self):
        self.assertIsNone(self.after((1, [], []), (2, [1, 7, 5], [returns(3)])))

    def test_of_go_hurl_and_on(self):
        self.assertEqual(self.after((2, [1, 7, 5], [throws(3, 4)])), (3, 4, []))
        self.assertEqual(self.after((2, [1, 7, 5], [last(9), hands_out(0)]), (4, [0, 3, -4, 5], [])), (3, -4, []))
        self.assertEqual(
            self.after((2, [1, 7, 1], [last(9)]), (6, [1], [throws(3, 4), thrown(5, 6)])), (5, 6, [(3, 4)]))

    def test_of_end_with_the_others_as_causes(self):
        cut_with_lasts = (2, [1, 7, 9], [last(9), last(8), last(7), hands_out(0)])
        self.assertEqual(
            self.after(cut_with_lasts, (5, [0], [thrown(1, 2), thrown(3, 4), thrown(5, 6)])), (5, 6, [(3, 4), (1, 2)]))

    def test_end_without_a_throw_leaves_the_one_before(self):
        self.assertEqual(
            self.after((2, [1, 7, 5], [throws(3, 4)]), (2, [1, 7, 9], [last(9), hands_out(0)]), (5, [0], [0])), (3, 4, []))

    def test_a_later_one_takes_its_place(self):
        self.assertEqual(self.after((2, [1, 7, 5], [throws(3, 4)]), (2, [1, 7, 5], [throws(5, 6)])), (5, 6, []))

    def test_a_caught_one_is_none(self):
        self.assertIsNone(self.after((2, [1, 7, 5], [handler(3), throws(3, 4)])))

    def test_end_keeps_16_causes(self):
        self.assertEqual(
            self.after((2, [1, 7, 99], [last(9)] * 20 + [hands_out(0)]), (5, [0], [thrown(i) for i in range(1, 21)])),
            (20, 0, [(kind, 0) for kind in range(19, 3, -1)]))


class Refusals(unittest.TestCase):
    def shown(self, keep):
        return (
            [None if s is None else (
                s.on, None if s.waiter is None else s.waiter.number, s.pieces,
                [(f.function, f.place, f.words, f.caught, f.acts) for f in s.frames]) for s in keep.stacks],
            keep.taken, keep.come, keep.uncaught, None if keep.running is None else keep.running.number,
        )

    def test_all_is_as_it_was_and_nothing_is_asked(self):
        keep = Keep()
        do_call(keep, Asks([handler(1), last(3), new_stack(4), throws(2)]), 2, [1, 7, 9])
        do_call(keep, Asks([handler(1), last(3), hands_out(4)]), 2, [1, 7, 9])
        free = ((2, [-1, 1, 1]), (2, [1, 1, -1]), (3, [9, 1, 1]), (3, [0, 1, -1]), (4, [0, 256, 1, 1]), (4, [9, 1, 1, 1]),
                (5, [9]), (6, [1]), (6, [-1]))
        self.check_refused(keep, free)
        do_call(keep, Asks([goes_on(1)]), 3, [0, 1, 1])
        self.assertTrue(keep.is_stopped())
        held = ((2, [1, 1, 1]), (3, [0, 1, 1]), (4, [0, 1, 1, 1]), (5, [0]), (6, [-1]), (6, [100001]))
        self.check_refused(keep, held)

    def check_refused(self, keep, steps):
        before = repr(self.shown(keep))
        for call, numbers in steps:
            asks = Asks([throws(1), ends(1)])
            result = do_call(keep, asks, call, numbers)
            self.assertEqual(len(result), 1, (call, numbers))
            self.assertLess(result[0], 0)
            self.assertEqual((asks.asked, asks.told), (0, []))
            self.assertEqual(repr(self.shown(keep)), before, (call, numbers))


if __name__ == "__main__":
    unittest.main()
