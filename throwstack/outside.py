"""The calls from outside: those that change what is kept, and those that only look at it.

Each answers the numbers that it tells behind its asks. Refusals are looked for in the document's
order, before anything is asked or changed.
"""

from throwstack.parts import Throw
from throwstack.telling import tell_acts, tell_causes, tell_frames, tell_pieces, tell_row
from throwstack.throwing import end_stack, joined, throw_on
from throwstack.wants import take_step

FUNCTION_MOST = 65535
KIND_MOST = 255
BUDGET_MOST = 100000

STOPPED = 3

NO_SUCH_STACK = -2
NOTHING_STOPPED = -3
NO_SUCH_FRAME = -3
NOTHING_UNCAUGHT = -3
NO_ROOM = -4
IS_STOPPED = -5
OUT_OF_RANGE = -8


def call_new(keep, asks, numbers):
    keep.make_empty()
    return [0]


def call_go(keep, asks, numbers):
    budget = numbers[2]
    if not in_range(numbers[0], FUNCTION_MOST) or not in_range(budget, BUDGET_MOST):
        return [OUT_OF_RANGE]
    if keep.is_stopped():
        return [IS_STOPPED]
    stack = keep.add_stack(numbers[0])
    if stack is None:
        return [NO_ROOM]
    keep.put_on_sending(stack, numbers[1])
    return run_steps(keep, asks, budget)


def call_send(keep, asks, numbers):
    budget = numbers[2]
    if not in_range(budget, BUDGET_MOST):
        return [OUT_OF_RANGE]
    if keep.is_stopped():
        return [IS_STOPPED]
    stack = keep.cut_stack(numbers[0])
    if stack is None:
        return [NO_SUCH_STACK]
    keep.put_on_sending(stack, numbers[1])
    return run_steps(keep, asks, budget)


def call_hurl(keep, asks, numbers):
    kind = numbers[1]
    budget = numbers[3]
    if not in_range(kind, KIND_MOST) or not in_range(budget, BUDGET_MOST):
        return [OUT_OF_RANGE]
    if keep.is_stopped():
        return [IS_STOPPED]
    stack = keep.cut_stack(numbers[0])
    if stack is None:
        return [NO_SUCH_STACK]
    keep.put_on(stack)
    told = throw_on(keep, asks, Throw(kind, numbers[2], []))
    # A throw is no step, so the budget is looked at only when it has been caught.
    return told if told is not None else run_steps(keep, asks, budget)


def call_end(keep, asks, numbers):
    if keep.is_stopped():
        return [IS_STOPPED]
    stack = keep.cut_stack(numbers[0])
    if stack is None:
        return [NO_SUCH_STACK]
    throws = end_stack(keep, asks, stack)
    if throws:
        keep.uncaught = joined(throws)
    return [0, len(throws)]


def call_on(keep, asks, numbers):
    budget = numbers[0]
    if not in_range(budget, BUDGET_MOST):
        return [OUT_OF_RANGE]
    if not keep.is_stopped():
        return [NOTHING_STOPPED]
    return run_steps(keep, asks, budget)


# The calls that only look may be made while it's stopped too, and of stacks that are on.
def call_frames(keep, asks, numbers):
    stack = keep.find_stack(numbers[0])
    return [NO_SUCH_STACK] if stack is None else tell_frames(stack)


def call_acts(keep, asks, numbers):
    i = numbers[1]
    if i < 0:
        return [OUT_OF_RANGE]
    stack = keep.find_stack(numbers[0])
    if stack is None:
        return [NO_SUCH_STACK]
    if i >= len(stack.frames):
        return [NO_SUCH_FRAME]
    return tell_acts(stack.frames[-1 - i])


def call_row(keep, asks, numbers):
    return tell_row(keep.stacks)


def call_pieces(keep, asks, numbers):
    stack = keep.find_stack(numbers[0])
    return [NO_SUCH_STACK] if stack is None else tell_pieces(stack)


def call_causes(keep, asks, numbers):
    return [NOTHING_UNCAUGHT] if keep.uncaught is None else tell_causes(keep.uncaught)


def in_range(number, most):
    return 0 <= number <= most


def run_steps(keep, asks, budget):
    for step in range(budget):
        told = take_step(keep, asks)
        if told is not None:
            return told
    return [STOPPED, budget]


CALLS = {
    1: call_new,
    2: call_go,
    3: call_send,
    4: call_hurl,
    5: call_end,
    6: call_on,
    7: call_frames,
    8: call_acts,
    9: call_row,
    10: call_pieces,
    11: call_causes,
}

NUMBERS_AHEAD_OF_REPLIES = {1: 0, 2: 3, 3: 3, 4: 4, 5: 1, 6: 1, 7: 1, 8: 2, 9: 0, 10: 1, 11: 0}


def how_many_numbers(call):
    return NUMBERS_AHEAD_OF_REPLIES[call]


def do_call(keep, asks, call, numbers):
    return CALLS[call](keep, asks, numbers)
