"""The keep of stacks: their numbers and pieces, the row of those that are on, and what has come."""

from throwstack.parts import Frame, Stack

STACKS_MOST = 64
PIECES_MOST = 256
PIECE_FRAMES = 8

FIRST = 0
SENT = 6


class Keep:
    def __init__(self):
        self.make_empty()

    # running is the innermost stack of the row; between two calls there is one only while it's stopped.
    # come is the why, value and more for the running stack's innermost frame.
    def make_empty(self):
        self.stacks = [None] * STACKS_MOST
        self.taken = [False] * PIECES_MOST
        self.running = None
        self.come = (0, 0, 0)
        self.uncaught = None

    def is_stopped(self):
        return self.running is not None

    # The stack of that number, whether it's on or cut, or None.
    def find_stack(self, number):
        if number < 0 or number >= STACKS_MOST:
            return None
        return self.stacks[number]

    # The stack of that number if it can be gone on with or ended, else None.
    def cut_stack(self, number):
        stack = self.find_stack(number)
        if stack is None or stack.on:
            return None
        return stack

    # Answers None, with nothing changed, if there is no number or no piece for it.
    def add_stack(self, function):
        if None not in self.stacks or False not in self.taken:
            return None
        stack = Stack(self.stacks.index(None))
        self.stacks[stack.number] = stack
        self.add_frame(stack, function)
        return stack

    # Answers False, with nothing changed, if there is no piece for it.
    def add_frame(self, stack, function):
        if len(stack.frames) == len(stack.pieces) * PIECE_FRAMES:
            if False not in self.taken:
                return False
            piece = self.taken.index(False)
            self.taken[piece] = True
            stack.pieces.append(piece)
        stack.frames.append(Frame(function))
        return True

    # A stack whose last frame goes keeps its one piece until it's ended itself.
    def drop_frame(self, stack):
        stack.frames.pop()
        before_last = len(stack.pieces) - 1
        if before_last > 0 and len(stack.frames) <= before_last * PIECE_FRAMES:
            self.taken[stack.pieces.pop()] = False

    def drop_stack(self, stack):
        for piece in stack.pieces:
            self.taken[piece] = False
        self.stacks[stack.number] = None

    # What was running waits for it; from outside nothing was, so it's alone.
    def put_on(self, stack):
        stack.on = True
        stack.waiter = self.running
        self.running = stack

    def put_on_sending(self, stack, number):
        why = FIRST if stack.innermost().is_new() else SENT
        self.put_on(stack)
        self.come = (why, number, 0)

    # The running stack leaves the row; the one that waited for it is running.
    def take_off(self):
        stack = self.running
        self.running = stack.waiter
        stack.waiter = None
        stack.on = False
