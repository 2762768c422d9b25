"""What is kept: frames with their acts, stacks, and throws."""

HANDLER = 0
LAST = 1

KINDS = 256
EVERY_KIND = 0
WORDS = 4
CAUSES_MOST = 16


class Frame:
    # acts are pairs (HANDLER, kind) or (LAST, function); the newest stands at the end.
    def __init__(self, function):
        self.function = function
        self.place = 0
        self.words = [0] * WORDS
        self.caught = None
        self.acts = []

    # Only an ask changes a frame that was made, and each ask is counted in its place.
    def is_new(self):
        return self.place == 0


class Stack:
    # The innermost frame stands at the end of frames; pieces are in the order in which they were taken.
    def __init__(self, number):
        self.number = number
        self.frames = []
        self.pieces = []
        self.on = False
        self.waiter = None

    def innermost(self):
        return self.frames[-1]


class Throw:
    # causes are pairs (kind, value), the newest first.
    def __init__(self, kind, value, causes):
        self.kind = kind
        self.value = value
        self.causes = causes


# Wants and last functions tell a throw by one number in the same way.
def throw_of_number(number):
    return Throw(number % KINDS, number // KINDS, [])


# The newer throw, made the one that goes on: the older one is its newest cause.
def in_place_of(older, newer):
    causes = [(older.kind, older.value)] + older.causes
    return Throw(newer.kind, newer.value, causes[:CAUSES_MOST])
