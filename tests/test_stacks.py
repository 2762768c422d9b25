"""Stacks that are cut, gone on with and ended, and the pieces in which frames lie."""

import unittest

from tests.helper import (
    Line, behind_asks, calls, each_told, end, ends, go, goes_on, handler, hands_out, hurl, last, new, new_stack, on,
    returns, run, send, sets, tells, told, throws,
)

from throwstack.asking import Asks
from throwstack.keeping import Keep
from throwstack.outside import do_call

START = run(1, 0, 0, 7, 0)


class Cut(Line):
    def test_why_0_first_and_why_6_later(self):
        self.check_go(
            [new_stack(2), goes_on(1, 5), hands_out(6), goes_on(1, 8), hands_out(9), goes_on(1, 10), returns(11), returns(12)],
            [START, run(1, 1, 7, 1, 0), run(2, 0, 0, 5, 0), run(1, 2, 4, 6, 1), run(2, 1, 6, 8, 0), run(1, 3, 4, 9, 1),
             run(2, 2, 6, 10, 0), run(1, 4, 5, 11, 1)], 0, 12)

    def test_cut_in_the_middle_of_its_frames(self):
        self.check_go(
            [new_stack(2), goes_on(1), calls(3), hands_out(6), goes_on(1, 8), returns(9), returns(10), returns(11)],
            [START, run(1, 1, 7, 1, 0), run(2, 0, 0, 0, 0), run(3, 0, 0, 0, 0), run(1, 2, 4, 6, 1), run(3, 1, 6, 8, 0),
             run(2, 1, 1, 9, 0), run(1, 3, 5, 10, 1)], 0, 11)

    def test_frames_in_the_middle_wait_too(self):
        self.check_go(
            [new_stack(2), calls(3), goes_on(1), hands_out(6), returns(9), returns(11)],
            [START, run(1, 1, 7, 1, 0), run(3, 0, 0, 0, 0), run(2, 0, 0, 0, 0), run(3, 1, 4, 6, 1), run(1, 2, 1, 9, 0)], 0, 11)

    def test_three_wait_for_one_another(self):
        self.check_go(
            [new_stack(2), new_stack(3), goes_on(1), goes_on(2), hands_out(5), hands_out(6), goes_on(2, 8), returns(9),
             goes_on(1, 4), returns(3), returns(2)],
            [START, run(1, 1, 7, 1, 0), run(1, 2, 7, 2, 0), run(2, 0, 0, 0, 0), run(3, 0, 0, 0, 0), run(2, 1, 4, 5, 2),
             run(1, 3, 4, 6, 1), run(3, 1, 6, 8, 0), run(1, 4, 5, 9, 2), run(2, 2, 6, 4, 0), run(1, 5, 5, 3, 1)], 0, 2)

    def test_gone_on_with_by_another_than_its_maker(self):
        self.check_go(
            [new_stack(2), goes_on(1), new_stack(3), goes_on(2), hands_out(4), hands_out(5), goes_on(2, 6), returns(7),
             hands_out(8)],
            [START, run(1, 1, 7, 1, 0), run(2, 0, 0, 0, 0), run(2, 1, 7, 2, 0), run(3, 0, 0, 0, 0), run(2, 2, 4, 4, 2),
             run(1, 2, 4, 5, 1), run(3, 1, 6, 6, 0), run(1, 3, 5, 7, 2)], 2, 8, 0)

    def test_hands_out_the_highest(self):
        self.check_go([hands_out(134217727)], [START], 2, 134217727, 0)

    def test_the_first_stack_gone_on_with_from_inside(self):
        self.check(
            (go(1, 7, 9, [hands_out(5)]), told([START], 2, 5, 0)),
            (go(2, 8, 9, [goes_on(0, 3), hands_out(4), returns(6)]), told(
                [run(2, 0, 0, 8, 0), run(1, 1, 6, 3, 0), run(2, 1, 4, 4, 0)], 0, 6)),
            (send(0, 9, 9), told([run(1, 2, 6, 9, 0)], 0, 0)),
        )

    def test_a_stack_lives_longer_than_its_maker(self):
        self.check(
            (go(1, 7, 9, [new_stack(2), returns(3)]), told([START, run(1, 1, 7, 1, 0)], 0, 3)),
            (go(3, 8, 9, [hands_out(0)]), told([run(3, 0, 0, 8, 0)], 2, 0, 0)),
            (go(4, 8, 9, [hands_out(0)]), told([run(4, 0, 0, 8, 0)], 2, 0, 2)),
            (send(1, 5, 9, [returns(6)]), told([run(2, 0, 0, 5, 0)], 0, 6)),
        )

    def test_the_lowest_number_that_no_stack_has(self):
        self.check_go(
            [new_stack(2), new_stack(3), new_stack(4), ends(2), ends(1), new_stack(5), new_stack(6), new_stack(7),
             goes_on(2), returns(0)],
            [START, run(1, 1, 7, 1, 0), run(1, 2, 7, 2, 0), run(1, 3, 7, 3, 0), run(1, 4, 0, 0, 0), run(1, 5, 0, 0, 0),
             run(1, 6, 7, 1, 0), run(1, 7, 7, 2, 0), run(1, 8, 7, 4, 0), run(6, 0, 0, 0, 0), run(1, 9, 5, 0, 2)], 0, 0)

    def test_64_deep(self):
        replies = [number for k in range(1, 64) for number in (new_stack(k), goes_on(k, k))] + [new_stack(9)]
        asks = [START, run(1, 1, 7, 1, 0)]
        for k in range(1, 63):
            asks = asks + [run(k, 0, 0, k, 0), run(k, 1, 7, k + 1, 0)]
        asks = asks + [run(63, 0, 0, 63, 0), run(63, 1, 8, 7, 0)]
        asks = asks + [run(k, 2, 5, 0, k + 1) for k in range(62, 0, -1)] + [run(1, 2, 5, 0, 1)]
        self.check((go(1, 7, 100000, replies), told(asks, 0, 0)))


class Pieces(Line):
    def keep_after(self, *steps):
        keep = Keep()
        for call, numbers, replies in steps:
            do_call(keep, Asks(replies), call, numbers)
        return keep

    def pieces(self, keep, k):
        return keep.stacks[k].pieces

    def test_the_ninth_frame_takes_the_second(self):
        for frames, pieces in ((1, [0]), (8, [0]), (9, [0, 1]), (16, [0, 1]), (17, [0, 1, 2])):
            keep = self.keep_after((2, [1, 7, 99], [calls(2)] * (frames - 1) + [hands_out(0)]))
            self.assertEqual(self.pieces(keep, 0), pieces, frames)

    def test_the_last_goes_back_when_it_is_empty(self):
        deep = (2, [1, 7, 99], [calls(2)] * 16 + [hands_out(0)])
        for frames_less, pieces in ((1, [0, 1]), (8, [0, 1]), (9, [0]), (16, [0])):
            keep = self.keep_after(deep, (3, [0, 0, 99], [returns(0)] * frames_less + [hands_out(0)]))
            self.assertEqual(self.pieces(keep, 0), pieces, frames_less)

    def test_a_throw_gives_them_back(self):
        keep = self.keep_after(
            (2, [1, 7, 99], [3] + [calls(2)] * 16 + [hands_out(0)]), (4, [0, 5, 6, 9], [hands_out(0)]))
        self.assertEqual(self.pieces(keep, 0), [0])
        self.assertEqual(keep.taken.count(True), 1)

    def test_the_lowest_free_one_first(self):
        keep = self.keep_after(
            (2, [1, 7, 99], [hands_out(0)]),
            (2, [1, 7, 99], [calls(2)] * 8 + [hands_out(0)]),
            (2, [1, 7, 99], [hands_out(0)]),
            (3, [1, 7, 99], [returns(0), hands_out(0)]),
            (5, [0], []),
            (3, [2, 7, 99], [calls(2)] * 16 + [hands_out(0)]),
        )
        self.assertEqual(self.pieces(keep, 1), [1])
        self.assertEqual(self.pieces(keep, 2), [3, 0, 2])
        self.assertEqual([piece for piece in range(256) if keep.taken[piece]], [0, 1, 2, 3])

    def test_the_only_one_is_kept_without_a_frame(self):
        keep = Keep()
        stack = keep.add_stack(5)
        keep.drop_frame(stack)
        self.assertEqual((stack.frames, stack.pieces), ([], [0]))

    def test_an_ended_stack_gives_all_back(self):
        deep = (2, [1, 7, 99], [calls(2)] * 20 + [hands_out(0)])
        for last_step in ((5, [0], []), (4, [0, 1, 1, 1], []), (3, [0, 1, 99], [])):
            keep = self.keep_after(deep, last_step)
            self.assertEqual(keep.taken.count(True), 0)
            self.assertEqual(keep.stacks, [None] * 64)

    def test_no_piece_for_a_frame_or_a_stack(self):
        full = [calls(2)] * 2047
        parts = each_told(new(), go(1, 7, 100000, full + [calls(3, 4), new_stack(5), tells(0), returns(6), calls(3, 4)]))
        asks = [START] + [run(2, 0, 0, 0, 0)] * 2047 + [
            run(2, 1, 8, 1, 0), run(2, 2, 8, 7, 0), run(2, 3, 3, 0, 0), run(2, 1, 1, 6, 0), run(3, 0, 0, 4, 0)]
        self.check_same(parts[1][1:1 + 6 * len(asks)], [number for ask in asks for number in ask], "asks")
        self.assertEqual(behind_asks(parts[1]), [0, 0])

    def test_a_piece_that_came_back_is_taken_again(self):
        replies = [calls(2)] * 2039 + [new_stack(5), calls(2), new_stack(6), ends(1), calls(2), new_stack(6)]
        parts = each_told(new(), go(1, 7, 2045, replies), on(1))
        asks = [run(2, 0, 0, 0, 0), run(2, 1, 7, 1, 0), run(2, 2, 8, 1, 0), run(2, 3, 8, 7, 0), run(2, 4, 0, 0, 0),
                run(2, 0, 0, 0, 0)]
        self.assertEqual(parts[1][-38:], [number for ask in asks for number in ask] + [3, 2045])
        self.assertEqual(parts[2], told([run(2, 1, 8, 7, 0)], 3, 1))

    def test_as_many_pieces_as_frames_need_whatever_was_done(self):
        seed = 12345
        for length in (40, 200, 900):
            keep = Keep()
            for call in range(60):
                seed = (seed * 1103515245 + 12345) % 2147483648
                replies, seed = some_replies(seed, length)
                number, numbers = some_call(seed, call)
                before = lasts_kept(keep)
                asks = Asks(replies)
                do_call(keep, asks, number, numbers)
                self.check_kept(keep)
                self.assertEqual(before + lasts_wanted(asks) - lasts_done(asks), lasts_kept(keep))

    def check_kept(self, keep):
        taken = []
        for number, stack in enumerate(keep.stacks):
            if stack is not None:
                self.assertEqual(stack.number, number)
                self.assertEqual(len(stack.pieces), (len(stack.frames) + 7) // 8)
                self.assertTrue(all(len(frame.acts) <= 32 for frame in stack.frames))
                self.assertTrue(stack.on or stack.waiter is None)
                taken.extend(stack.pieces)
        self.assertEqual(sorted(taken), [piece for piece in range(256) if keep.taken[piece]])
        row = []
        stack = keep.running
        while stack is not None:
            row.append(stack.number)
            stack = stack.waiter
        self.assertEqual(sorted(row), [s.number for s in keep.stacks if s is not None and s.on])


# Calls, acts and new stacks come more often than returns, throws and ends, so that much is kept.
WANTS = (0, 1, 1, 1, 1, 2, 3, 3, 4, 4, 4, 5, 6, 7, 7, 8, 8, 9, 10, 11, 12, 13)


def some_replies(seed, length):
    replies = []
    for step in range(length):
        seed = (seed * 1103515245 + 12345) % 2147483648
        want = WANTS[(seed >> 16) % len(WANTS)]
        v = (seed >> 8) % 24
        replies.append(want + 16 * v)
    return replies, seed


def some_call(seed, call):
    k = (seed >> 9) % 8
    choices = (
        (2, [3, 4, 300]), (6, [200]), (3, [k, 5, 150]), (4, [k, 5, 6, 150]), (5, [k]), (6, [100000]), (6, [30]))
    return choices[(seed >> 16) % len(choices)] if call % 3 else choices[call % 2]


def each_ask(asks):
    return [asks.told[at:at + 6] for at in range(0, len(asks.told), 6)]


def lasts_done(asks):
    return len([ask for ask in each_ask(asks) if ask[0] == 1])


# Those answers to run that want a last function, less those that were refused.
def lasts_wanted(asks):
    every = each_ask(asks)
    wanted = [at for at, ask in enumerate(every) if ask[0] == 0 and at < len(asks.replies) and asks.replies[at] % 16 == 4]
    refused = [at for at in wanted if at + 1 < len(every) and every[at + 1][3:5] == [8, 4]]
    return len(wanted) - len(refused)


def lasts_kept(keep):
    return sum(
        len([act for act in frame.acts if act[0] == 1]) for stack in keep.stacks if stack is not None
        for frame in stack.frames)


class Kept(unittest.TestCase):
    def test_frames_words_and_acts(self):
        keep = Keep()
        do_call(keep, Asks([handler(3), last(9), sets(2, 8), calls(4), sets(0, 5), hands_out(0)]), 2, [1, 7, 99])
        frames = [(f.function, f.place, f.words, f.acts) for f in keep.stacks[0].frames]
        self.assertEqual(frames, [(1, 4, [0, 0, 8, 0], [(0, 3), (1, 9)]), (4, 2, [5, 0, 0, 0], [])])

    def test_which_waits_for_which(self):
        keep = Keep()
        do_call(keep, Asks([new_stack(2), new_stack(3), goes_on(2), goes_on(1)]), 2, [1, 7, 4])
        self.assertEqual([stack.on for stack in keep.stacks[:3]], [True, True, True])
        self.assertIsNone(keep.stacks[0].waiter)
        self.assertEqual((keep.stacks[2].waiter.number, keep.stacks[1].waiter.number), (0, 2))
        do_call(keep, Asks([hands_out(0)]), 6, [1])
        self.assertEqual([stack.on for stack in keep.stacks[:3]], [True, False, True])
        self.assertIsNone(keep.stacks[1].waiter)

    def test_the_highest_place(self):
        keep = Keep()
        do_call(keep, Asks([]), 2, [1, 7, 0])
        keep.running.innermost().place = 4294967294
        asks = Asks([tells(0), tells(0), hands_out(0)])
        do_call(keep, asks, 6, [3])
        self.assertEqual([asks.told[at] for at in (2, 8, 14)], [4294967294, 4294967295, 4294967295])


class Alone(Line):
    def test_calls_from_outside_one_behind_another(self):
        self.check(
            (go(1, 7, 9, [new_stack(2), goes_on(1, 5), last(11), hands_out(6), hands_out(8)]), told(
                [START, run(1, 1, 7, 1, 0), run(2, 0, 0, 5, 0), run(2, 1, 0, 0, 0), run(1, 2, 4, 6, 1)], 2, 8, 0)),
            (hurl(0, 3, 4, 9), told([], 1, 3, 4, 0)),
            (send(1, 9, 9, [hands_out(4)]), told([run(2, 2, 6, 9, 0)], 2, 4, 1)),
            (go(3, 7, 9, [goes_on(1, 2), throws(5, 6), 0]), told(
                [run(3, 0, 0, 7, 0), run(2, 3, 6, 2, 0), [1, 11, 1, 0, 0, 0]], 1, 5, 6, 0)),
            (end(1), told([], -2)),
        )


if __name__ == "__main__":
    unittest.main()
