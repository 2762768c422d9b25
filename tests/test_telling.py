"""Points 7 to 11: what frames, acts, row, pieces and causes tell, and their refusals."""

import unittest

from tests.helper import (
    AGAIN, GIVES_UP, HIGHEST, LOWEST, Line, acts, calls, causes, clean, each_told, end, ends, frames, go, goes_on,
    handler, hands_out, hurl, last, looks, new, new_stack, on, pieces, refused, returns, row, run, send, sets, tells,
    thrown, throws, told,
)

NO_STACKS = (-1, -64, 1, 63, 64, LOWEST, HIGHEST)


def made(call):
    return (call, None)


# Stack 0 if it's the first: a frame of function 1 that was asked these, cut.
def cut(*replies):
    return made(go(1, 7, 100000, [*replies, hands_out(0)]))


class Frames(Line):
    def test_one(self):
        self.check(cut(), looks(frames(0), 1, 1, 1, 0, 0, 0, 0, 0))

    def test_the_innermost_first(self):
        self.check(
            cut(tells(0), calls(2), calls(65535)),
            looks(frames(0), 3, 65535, 1, 0, 0, 0, 0, 0, 2, 1, 0, 0, 0, 0, 0, 1, 2, 0, 0, 0, 0, 0))

    def test_places_words_and_acts(self):
        self.check(
            cut(sets(0, 5), sets(3, 33554431), handler(0), last(9), last(8), calls(4), sets(1, 6), sets(2, 7),
                handler(3)),
            looks(frames(0), 2, 4, 4, 0, 6, 7, 0, 1, 1, 6, 5, 0, 0, 33554431, 3),
            made(send(0, 0, 9, [returns(0), GIVES_UP, 0, sets(0, 0), hands_out(0)])),
            looks(frames(0), 1, 1, 9, 0, 0, 0, 33554431, 2))

    def test_refused_wants_count_in_the_place_alone(self):
        self.check(cut(13, -1, AGAIN, GIVES_UP, ends(5)), looks(frames(0), 1, 1, 6, 0, 0, 0, 0, 0))

    def test_a_new_one_has_place_0(self):
        self.check(
            made(go(1, 7, 0)), looks(frames(0), 1, 1, 0, 0, 0, 0, 0, 0), made(on(1, [calls(2)])),
            looks(frames(0), 2, 2, 0, 0, 0, 0, 0, 0, 1, 1, 0, 0, 0, 0, 0))

    def test_of_each_stack(self):
        self.check(
            cut(new_stack(2), new_stack(3)), looks(frames(1), 1, 2, 0, 0, 0, 0, 0, 0),
            looks(frames(2), 1, 3, 0, 0, 0, 0, 0, 0), looks(frames(0), 1, 1, 3, 0, 0, 0, 0, 0))

    def test_of_those_that_are_on_and_of_a_cut_one_beside_them(self):
        self.check(
            made(go(1, 7, 4, [new_stack(2), new_stack(3), goes_on(2), sets(1, 4)])),
            looks(frames(0), 1, 1, 3, 0, 0, 0, 0, 0), looks(frames(1), 1, 2, 0, 0, 0, 0, 0, 0),
            looks(frames(2), 1, 3, 1, 0, 4, 0, 0, 0))

    def test_2048_of_them(self):
        every = [number for frame in range(2047) for number in (2, 1, 0, 0, 0, 0, 0)] + [1, 1, 0, 0, 0, 0, 0]
        self.check(cut(*[calls(2)] * 2047), looks(frames(0), 2048, *every))

    def test_behind_a_throw_that_was_caught(self):
        self.check(
            cut(handler(3), last(8), handler(3), calls(2), sets(0, 1), calls(4)), made(hurl(0, 3, 4, 0)),
            looks(frames(0), 1, 1, 4, 0, 0, 0, 0, 2), looks(acts(0, 0), 2, 1, 8, 0, 3))

    def test_no_such_stack(self):
        self.check(looks(frames(0), -2), cut(), *[looks(frames(k), -2) for k in NO_STACKS])

    def test_numbers_outside_are_no_stacks_among_64(self):
        full = cut(*[new_stack(2)] * 63)
        outside = [looks(call(k), -2) for k in (-1, -64, 64) for call in (frames, pieces)]
        self.check(full, *outside, looks(acts(-1, 0), -2), looks(frames(63), 1, 2, 0, 0, 0, 0, 0, 0))


class Acts(Line):
    def test_none(self):
        self.check(cut(), looks(acts(0, 0), 0))

    def test_both_sorts_the_newest_first(self):
        self.check(
            cut(handler(0), last(0), last(65535), handler(255), last(9)),
            looks(acts(0, 0), 5, 1, 9, 0, 255, 1, 65535, 1, 0, 0, 0))

    def test_0_to_32(self):
        wants = [handler(at) if at % 3 else last(100 + at) for at in range(32)]
        each = [(0, at) if at % 3 else (1, 100 + at) for at in range(32)]
        for count in range(33):
            numbers = [number for act in reversed(each[:count]) for number in act]
            self.check(cut(*wants[:count]), looks(acts(0, 0), count, *numbers))

    def test_a_33rd_is_not_there(self):
        self.check(cut(*[handler(5)] * 32, last(9), handler(8)), looks(acts(0, 0), 32, *[0, 5] * 32))

    def test_the_innermost_is_the_0th(self):
        self.check(
            cut(handler(1), calls(2), last(5), handler(2), calls(3)),
            looks(acts(0, 0), 0), looks(acts(0, 1), 2, 0, 2, 1, 5), looks(acts(0, 2), 1, 0, 1), looks(acts(0, 3), -3),
            looks(acts(0, 4), -3), looks(acts(0, HIGHEST), -3))

    def test_of_2048_frames(self):
        self.check(
            cut(handler(7), *[calls(2)] * 2046, last(6), calls(2)), looks(acts(0, 2047), 1, 0, 7),
            looks(acts(0, 2046), 0), looks(acts(0, 1), 1, 1, 6), looks(acts(0, 2048), -3))

    def test_those_that_are_left(self):
        self.check(
            cut(handler(1), last(2), handler(3), handler(4)), made(hurl(0, 3, 0, 0)), looks(acts(0, 0), 2, 1, 2, 0, 1),
            made(on(9, [GIVES_UP, 0, hands_out(0)])), looks(acts(0, 0), 1, 0, 1))

    def test_of_those_that_are_on(self):
        self.check(
            made(go(1, 7, 4, [handler(5), new_stack(2), goes_on(1), last(6)])),
            looks(acts(0, 0), 1, 0, 5), looks(acts(1, 0), 1, 1, 6), looks(acts(1, 1), -3))

    def test_a_frame_below_0_is_looked_at_first(self):
        for i in (-1, -2, LOWEST):
            self.check(
                looks(acts(0, i), -8), cut(last(3)), looks(acts(0, i), -8), looks(acts(5, i), -8),
                looks(acts(-1, i), -8), made(go(2, 0, 0)), looks(acts(1, i), -8), looks(acts(0, 0), 1, 1, 3))

    def test_no_such_stack_comes_ahead_of_no_such_frame(self):
        self.check(looks(acts(0, 0), -2), cut(), *[looks(acts(k, i), -2) for k in NO_STACKS for i in (0, 1, HIGHEST)])


class Row(Line):
    def test_no_stack(self):
        self.check(
            looks(row(), 0), made(go(1, 7, 9, [returns(1)])), looks(row(), 0), made(go(1, 7, 9, [throws(1)])),
            looks(row(), 0), cut(), made(new()), looks(row(), 0))

    def test_cut_ones(self):
        self.check(cut(), looks(row(), 1, 0, 0, -1), cut(), cut(), looks(row(), 3, 0, 0, -1, 1, 0, -1, 2, 0, -1))

    def test_one_alone(self):
        self.check(cut(), made(go(1, 7, 0)), looks(row(), 2, 0, 0, -1, 1, 1, -1))

    def test_several_that_wait_in_the_order_of_their_numbers(self):
        self.check(
            made(go(1, 7, 5, [new_stack(2), new_stack(3), new_stack(4), goes_on(3), goes_on(1)])),
            looks(row(), 4, 0, 1, -1, 1, 1, 3, 2, 0, -1, 3, 1, 0))

    def test_before_and_behind_an_on(self):
        self.check(
            made(go(1, 7, 4, [new_stack(2), new_stack(3), goes_on(2), goes_on(1)])),
            looks(row(), 3, 0, 1, -1, 1, 1, 2, 2, 1, 0),
            made(on(0)), looks(row(), 3, 0, 1, -1, 1, 1, 2, 2, 1, 0),
            made(on(1, [hands_out(0)])), looks(row(), 3, 0, 1, -1, 1, 0, -1, 2, 1, 0),
            made(on(1, [returns(0)])), looks(row(), 2, 0, 1, -1, 1, 0, -1),
            made(on(1, [goes_on(1)])), looks(row(), 2, 0, 1, -1, 1, 1, 0),
            made(on(2, [hands_out(0), hands_out(0)])), looks(row(), 2, 0, 0, -1, 1, 0, -1))

    def test_gone_on_with_by_another(self):
        self.check(
            made(go(1, 7, 9, [new_stack(2), goes_on(1), hands_out(0), hands_out(0)])),
            looks(row(), 2, 0, 0, -1, 1, 0, -1), made(send(1, 0, 1, [goes_on(0)])), looks(row(), 2, 0, 1, 1, 1, 1, -1))

    def test_numbers_that_are_taken_anew(self):
        self.check(
            cut(), cut(), cut(), made(end(1)), looks(row(), 2, 0, 0, -1, 2, 0, -1), made(end(0)),
            looks(row(), 1, 2, 0, -1), made(go(4, 7, 2, [new_stack(5), goes_on(1)])),
            looks(row(), 3, 0, 1, -1, 1, 1, 0, 2, 0, -1), looks(frames(0), 1, 4, 2, 0, 0, 0, 0, 0))

    def test_a_throw_that_another_catches(self):
        self.check(
            made(go(1, 7, 5, [handler(3), new_stack(2), goes_on(1), new_stack(3), goes_on(2)])),
            looks(row(), 3, 0, 1, -1, 1, 1, 0, 2, 1, 1), made(on(1, [throws(3)])), looks(row(), 1, 0, 1, -1))

    def test_64_that_wait_for_one_another(self):
        replies = [number for k in range(1, 64) for number in (new_stack(2), goes_on(k))]
        every = [number for k in range(64) for number in (k, 1, k - 1)]
        self.check(made(go(1, 7, 126, replies)), looks(row(), 64, *every))


class Pieces(Line):
    def test_after_each_eighth_frame(self):
        for count, numbers in ((1, [0]), (8, [0]), (9, [0, 1]), (16, [0, 1]), (17, [0, 1, 2])):
            self.check(cut(*[calls(2)] * (count - 1)), looks(pieces(0), len(numbers), *numbers))

    def test_256_of_them(self):
        self.check(cut(*[calls(2)] * 2047), looks(pieces(0), 256, *range(256)), made(go(1, 7, 9)), looks(pieces(1), -2))

    def test_given_back_when_empty_but_the_only_one(self):
        self.check(
            cut(*[calls(2)] * 16), looks(pieces(0), 3, 0, 1, 2),
            made(send(0, 0, 2, [returns(0), hands_out(0)])), looks(pieces(0), 2, 0, 1),
            made(send(0, 0, 8, [returns(0)] * 7 + [hands_out(0)])), looks(pieces(0), 2, 0, 1),
            made(send(0, 0, 2, [returns(0), hands_out(0)])), looks(pieces(0), 1, 0),
            made(send(0, 0, 8, [returns(0)] * 7 + [hands_out(0)])), looks(pieces(0), 1, 0),
            looks(frames(0), 1, 1, 2, 0, 0, 0, 0, 0))

    def test_given_back_and_taken_by_another_in_the_order_in_which_they_were_taken(self):
        self.check(
            cut(*[calls(2)] * 8), cut(*[calls(2)] * 16), looks(pieces(0), 2, 0, 1), looks(pieces(1), 3, 2, 3, 4), cut(),
            looks(pieces(2), 1, 5),
            made(send(1, 0, 9, [returns(0), hands_out(0)])), looks(pieces(1), 2, 2, 3),
            made(end(0)),
            made(send(2, 0, 99, [calls(2)] * 24 + [hands_out(0)])), looks(pieces(2), 4, 5, 0, 1, 4),
            made(send(1, 0, 99, [calls(2)] * 8 + [hands_out(0)])), looks(pieces(1), 3, 2, 3, 6),
            looks(pieces(0), -2))

    def test_a_throw_gives_them_back(self):
        self.check(
            cut(handler(0), *[calls(2)] * 30), looks(pieces(0), 4, 0, 1, 2, 3), made(hurl(0, 1, 1, 0)),
            looks(pieces(0), 1, 0))

    def test_of_those_that_are_on(self):
        self.check(
            made(go(1, 7, 11, [new_stack(2)] + [calls(3)] * 8 + [goes_on(1), tells(0)])),
            looks(pieces(0), 2, 0, 2), looks(pieces(1), 1, 1))

    def test_no_such_stack(self):
        self.check(looks(pieces(0), -2), cut(), *[looks(pieces(k), -2) for k in NO_STACKS], looks(pieces(0), 1, 0))


class Causes(Line):
    def test_none_yet(self):
        self.check(
            looks(causes(), -3), made(go(1, 7, 9, [handler(3), throws(3, 4), returns(5)])), looks(causes(), -3),
            cut(last(3)), looks(causes(), -3), made(end(0)), looks(causes(), -3))

    def test_without_causes(self):
        self.check(
            made(go(1, 7, 9, [throws(3, 4)])), looks(causes(), 0, 3, 4), made(go(1, 7, 9, [throws(0, 0)])),
            looks(causes(), 0, 0, 0), cut(), made(hurl(0, 255, LOWEST, 9)), looks(causes(), 0, 255, LOWEST))

    def test_the_newest_first(self):
        self.check(
            made(go(1, 7, 9, [last(8), last(8), last(8), throws(3, 4), thrown(5, 6), 0, thrown(7, 8)])),
            looks(causes(), 2, 7, 8, 5, 6, 3, 4))

    def test_16_and_more(self):
        for count in (15, 16, 17, 32):
            numbers = [number for n in range(count - 1, -1, -1) for number in (n, 100 + n)][:32]
            later = [thrown(n, 100 + n) for n in range(1, count + 1)]
            self.check(
                made(go(1, 7, 99, [last(8)] * count + [throws(0, 100)] + later)),
                looks(causes(), min(count, 16), count, 100 + count, *numbers))

    def test_caught_and_thrown_again(self):
        self.check(
            made(go(1, 7, 99, [last(7), handler(0), last(8), throws(3, 4), thrown(5, 6), AGAIN, thrown(9, 10)])),
            looks(causes(), 2, 9, 10, 5, 6, 3, 4))

    def test_through_stacks_that_wait(self):
        self.check(
            made(go(1, 7, 9, [last(8), new_stack(2), goes_on(1), last(9), throws(3, 4), thrown(5, 6), thrown(7, 8)])),
            looks(causes(), 2, 7, 8, 5, 6, 3, 4))

    def test_end_with_one_throw(self):
        self.check(
            cut(last(8), last(9), last(10)), made(end(0, [0, thrown(3, 4)])), looks(causes(), 0, 3, 4))

    def test_end_with_several(self):
        self.check(
            cut(last(8), calls(2), last(9), last(10)), made(end(0, [thrown(1, 2), thrown(3, 4), thrown(5, 6)])),
            looks(causes(), 2, 5, 6, 3, 4, 1, 2))

    def test_end_with_more_than_17(self):
        numbers = [number for n in range(19, 3, -1) for number in (n, n)]
        self.check(
            cut(*[last(8)] * 20), made(end(0, [thrown(n, n) for n in range(1, 21)])),
            looks(causes(), 16, 20, 20, *numbers))

    def test_a_stack_ended_from_inside(self):
        self.check(
            made(go(1, 7, 99, [
                new_stack(2), goes_on(1), last(8), last(9), hands_out(0), last(10), ends(1), thrown(1, 2), thrown(3, 4),
                thrown(5, 6)])),
            looks(causes(), 2, 5, 6, 3, 4, 1, 2))

    def test_it_stays_till_another_takes_its_place(self):
        self.check(
            made(go(1, 7, 9, [last(8), throws(3, 4), thrown(5, 6)])), looks(causes(), 1, 5, 6, 3, 4),
            made(go(1, 7, 9, [returns(1)])), looks(causes(), 1, 5, 6, 3, 4),
            made(go(1, 7, 9, [handler(0), throws(9, 9), last(8), hands_out(1)])), looks(causes(), 1, 5, 6, 3, 4),
            made(end(0)), looks(causes(), 1, 5, 6, 3, 4),
            made(go(1, 7, 0)), looks(causes(), 1, 5, 6, 3, 4), made(on(1, [throws(1, 2)])), looks(causes(), 0, 1, 2))

    def test_new_takes_it_away(self):
        self.check(made(go(1, 7, 9, [throws(3, 4)])), looks(causes(), 0, 3, 4), made(new()), looks(causes(), -3))


def looks_at_all(count):
    line = [row(), causes()]
    for k in range(count):
        line = line + [frames(k), pieces(k), acts(k, 0), acts(k, 1)]
    return line


class Ended(Line):
    def test_no_such_stack(self):
        for ending in (end(0), send(0, 1, 9), hurl(0, 1, 1, 1), go(2, 7, 9, [ends(0)]), new()):
            self.check(
                cut(last(4), calls(2)), looks(acts(0, 1), 1, 1, 4), made(ending), looks(frames(0), -2),
                looks(acts(0, 0), -2), looks(acts(0, -1), -8), looks(pieces(0), -2), looks(row(), 0))

    def test_while_another_is_stopped(self):
        self.check(
            cut(), made(go(2, 7, 1, [ends(0)])), looks(frames(0), -2), looks(acts(0, 0), -2), looks(pieces(0), -2),
            looks(row(), 1, 1, 1, -1), looks(pieces(1), 1, 1), looks(frames(1), 1, 2, 1, 0, 0, 0, 0, 0))


class Looking(Line):
    SETUP = (
        go(1, 7, 9, [last(8), throws(3, 4), thrown(5, 6)]),
        go(1, 7, 99, [handler(2), last(3), sets(1, 6), new_stack(4)] + [calls(2)] * 8 + [handler(9), hands_out(5)]),
    )
    STOPPED = SETUP + (send(0, 5, 2, [goes_on(1), last(12)]),)

    def same_again(self, setup, between):
        looked = looks_at_all(3)
        parts = each_told(new(), *setup, *looked, *between, *looked)
        self.assertEqual(len(parts), 1 + len(setup) + 2 * len(looked) + len(between))
        first = parts[1 + len(setup):][:len(looked)]
        self.assertEqual(parts[-len(looked):], first)
        self.assertIn([0, -2], first)
        return parts[1 + len(setup) + len(looked):-len(looked)]

    def test_nothing_changes_by_it(self):
        for setup in (self.SETUP, self.STOPPED):
            self.same_again(setup, [])
            self.same_again(setup, looks_at_all(5))

    def test_a_refused_call_leaves_all_as_it_was(self):
        thrower = [throws(1), last(2), thrown(3)]
        wrong = [
            go(-1, 1, 1, thrower), go(1, 1, -1, thrower), send(9, 1, 1, thrower), send(0, 1, 100001, thrower),
            hurl(0, 256, 1, 1, thrower), hurl(9, 1, 1, 1, thrower), end(9, thrower), on(1, thrower),
            frames(-1, thrower), acts(0, -1, thrower), acts(0, 99, thrower), acts(9, 0, thrower), pieces(64, thrower)]
        numbers = (-8, -8, -2, -8, -8, -2, -2, -3, -2, -8, -3, -2, -2)
        self.assertEqual(self.same_again(self.SETUP, wrong), [refused(number) for number in numbers])
        held = [
            go(1, 1, 1, thrower), send(0, 1, 1, thrower), hurl(0, 1, 1, 1, thrower), end(0, thrower), on(-1, thrower)]
        self.assertEqual(self.same_again(self.STOPPED, held), [refused(number) for number in (-5, -5, -5, -5, -8)])

    def test_it_goes_on_as_if_nobody_had_looked(self):
        behind = (on(1, [hands_out(3)]), on(9, [throws(4, 5), thrown(2, 1)]), send(1, 6, 9, [returns(0)]))
        plain = each_told(new(), *self.STOPPED, *behind)
        line = [new(), *self.STOPPED]
        for call in behind:
            line = line + looks_at_all(3) + [call]
        looked = each_told(*line)
        each = len(looks_at_all(3)) + 1
        start = len(self.STOPPED) + each
        self.assertEqual(looked[start::each], plain[-3:])

    def test_replies_are_not_asked_for_and_the_call_behind_reads_its_own(self):
        replies = [throws(5, 6), LOWEST, HIGHEST]
        self.check(
            cut(last(4)),
            looks(row(replies), 1, 0, 0, -1), looks(frames(0, replies), 1, 1, 2, 0, 0, 0, 0, 1),
            looks(acts(0, 0, replies), 1, 1, 4), looks(pieces(0, replies), 1, 0), looks(causes(replies), -3),
            looks(frames(1, replies), -2), looks(acts(0, 1, replies), -3), looks(acts(0, -1, replies), -8),
            looks(pieces(-1, replies), -2),
            (send(0, 8, 9, [hands_out(2)]), told([run(1, 2, 6, 8, 0)], 2, 2, 0)),
            looks(row([hands_out(1)] * 4096), 1, 0, 0, -1),
            (send(0, 9, 9), told([run(1, 3, 6, 9, 0), clean(4, 0)], 0, 0)))


if __name__ == "__main__":
    unittest.main()
