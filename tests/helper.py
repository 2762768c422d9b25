"""Writes calls, wants and asks as numbers, and checks a line of calls against what each must tell."""

import unittest

from throwstack.desk import answers

LOWEST = -2147483648
HIGHEST = 2147483647


def new(replies=()):
    return [1, len(replies), *replies]


def go(f, x, budget, replies=()):
    return [2, f, x, budget, len(replies), *replies]


def send(k, x, budget, replies=()):
    return [3, k, x, budget, len(replies), *replies]


def hurl(k, kind, value, budget, replies=()):
    return [4, k, kind, value, budget, len(replies), *replies]


def end(k, replies=()):
    return [5, k, len(replies), *replies]


def on(budget, replies=()):
    return [6, budget, len(replies), *replies]


def frames(k, replies=()):
    return [7, k, len(replies), *replies]


def acts(k, i, replies=()):
    return [8, k, i, len(replies), *replies]


def row(replies=()):
    return [9, len(replies), *replies]


def pieces(k, replies=()):
    return [10, k, len(replies), *replies]


def causes(replies=()):
    return [11, len(replies), *replies]


def returns(v):
    return 16 * v


def calls(f, x=0):
    return 16 * (f + 65536 * x) + 1


def throws(kind, value=0):
    return 16 * (kind + 256 * value) + 2


def handler(kind):
    return 16 * kind + 3


def last(f):
    return 16 * f + 4


GIVES_UP = 5


def hands_out(v):
    return 16 * v + 6


def new_stack(f):
    return 16 * f + 7


def goes_on(k, x=0):
    return 16 * (k + 64 * x) + 8


def ends(k):
    return 16 * k + 9


AGAIN = 10


def sets(word, x):
    return 16 * (word + 4 * x) + 11


def tells(word):
    return 16 * word + 12


# What a last function answers to throw.
def thrown(kind, value=0):
    return kind + 256 * value


def run(f, place, why, value, more):
    return [0, f, place, why, value, more]


def clean(f, why):
    return [1, f, why, 0, 0, 0]


def told(asks, *numbers):
    flat = [number for ask in asks for number in ask]
    return [len(asks), *flat, *numbers]


def refused(number):
    return told([], number)


# A call that asks nothing, and the numbers that it tells.
def looks(call, *numbers):
    return (call, told([], *numbers))


NEW = looks(new(), 0)


def split(result):
    parts = []
    at = 0
    while at < len(result):
        behind = at + 1 + result[at]
        parts.append(result[at + 1:behind])
        at = behind
    return parts


def each_told(*line):
    return split(answers([number for call in line for number in call]))


# What is told behind the asks.
def behind_asks(part):
    return part[1 + 6 * part[0]:]


class Line(unittest.TestCase):
    # Each pair is a call and all that it must tell, or None where that's tested elsewhere; the line's first
    # call, new, is put ahead.
    def check(self, *pairs):
        pairs = (NEW, *pairs)
        parts = each_told(*[pair[0] for pair in pairs])
        self.assertEqual(len(parts), len(pairs))
        for place, pair in enumerate(pairs):
            if pair[1] is not None:
                self.check_same(parts[place], pair[1], f"call {place}: {pair[0][:40]}")

    # assertEqual looks so long for the best way to show how two long lists differ that it seems to hang.
    def check_same(self, numbers, wanted, what):
        if numbers != wanted:
            at = 0
            while numbers[at:at + 1] == wanted[at:at + 1]:
                at += 1
            around = slice(max(0, at - 10), at + 20)
            self.fail(f"{what}\nthey differ at {at}: {numbers[around]}\nand not: {wanted[around]}")

    # One go of function 1 with 7 that isn't stopped.
    def check_go(self, replies, asks, *numbers):
        self.check((go(1, 7, 100000, replies), told(asks, *numbers)))
