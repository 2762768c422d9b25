"""A step: the innermost frame is asked, and what it wants is done.

Each want's function answers what the call tells if the call ends by it, else None.
"""

from throwstack.asking import WHY_RETURN
from throwstack.keeping import STACKS_MOST
from throwstack.parts import HANDLER, KINDS, LAST, WORDS, throw_of_number
from throwstack.throwing import drop_act, end_stack, joined, throw_on

PLACE_MOST = 4294967295
ACTS_MOST = 32
FUNCTIONS = 65536

NOTHING_MORE = (0, 0, 0)
CALLED = 0
RETURNED = 1
WORD = 3
HANDED_OUT = 4
STACK_RETURNED = 5
STACK_MADE = 7
REFUSED = 8

ENDS_RETURNED = 0
ENDS_HANDED_OUT = 2

NO_WANT = 15


def refuse(keep, want):
    keep.come = (REFUSED, want, 0)
    return None


def go_on(keep):
    keep.come = NOTHING_MORE
    return None


def want_return(keep, asks, v):
    stack = keep.running
    frame = stack.innermost()
    while frame.acts:
        thrown = drop_act(asks, frame, WHY_RETURN)
        if thrown is not None:
            return throw_on(keep, asks, thrown)
    keep.drop_frame(stack)
    if stack.frames:
        keep.come = (RETURNED, v, 0)
        return None
    keep.drop_stack(stack)
    keep.take_off()
    if keep.running is None:
        return [ENDS_RETURNED, v]
    keep.come = (STACK_RETURNED, v, stack.number)
    return None


def want_call(keep, asks, v):
    if not keep.add_frame(keep.running, v % FUNCTIONS):
        return refuse(keep, 1)
    keep.come = (CALLED, v // FUNCTIONS, 0)
    return None


def want_throw(keep, asks, v):
    return throw_on(keep, asks, throw_of_number(v))


def want_handler(keep, asks, v):
    return add_act(keep, 3, (HANDLER, v % KINDS))


def want_last(keep, asks, v):
    return add_act(keep, 4, (LAST, v % FUNCTIONS))


def add_act(keep, want, act):
    acts = keep.running.innermost().acts
    if len(acts) >= ACTS_MOST:
        return refuse(keep, want)
    acts.append(act)
    return go_on(keep)


def want_drop_act(keep, asks, v):
    frame = keep.running.innermost()
    if not frame.acts:
        return refuse(keep, 5)
    thrown = drop_act(asks, frame, WHY_RETURN)
    if thrown is not None:
        return throw_on(keep, asks, thrown)
    return go_on(keep)


def want_hand_out(keep, asks, v):
    number = keep.running.number
    keep.take_off()
    if keep.running is None:
        return [ENDS_HANDED_OUT, v, number]
    keep.come = (HANDED_OUT, v, number)
    return None


def want_new_stack(keep, asks, v):
    stack = keep.add_stack(v % FUNCTIONS)
    if stack is None:
        return refuse(keep, 7)
    keep.come = (STACK_MADE, stack.number, 0)
    return None


def want_go_on_with(keep, asks, v):
    stack = keep.cut_stack(v % STACKS_MOST)
    if stack is None:
        return refuse(keep, 8)
    keep.put_on_sending(stack, v // STACKS_MOST)
    return None


# The document takes no rests of this want's v, so a v above 63 is no stack's number.
def want_end(keep, asks, v):
    stack = keep.cut_stack(v)
    if stack is None:
        return refuse(keep, 9)
    throws = end_stack(keep, asks, stack)
    if throws:
        return throw_on(keep, asks, joined(throws))
    return go_on(keep)


def want_throw_again(keep, asks, v):
    caught = keep.running.innermost().caught
    if caught is None:
        return refuse(keep, 10)
    return throw_on(keep, asks, caught)


def want_set_word(keep, asks, v):
    words = keep.running.innermost().words
    words[v % WORDS] = v // WORDS
    return go_on(keep)


def want_tell_word(keep, asks, v):
    keep.come = (WORD, keep.running.innermost().words[v % WORDS], 0)
    return None


WANTS = (
    want_return,
    want_call,
    want_throw,
    want_handler,
    want_last,
    want_drop_act,
    want_hand_out,
    want_new_stack,
    want_go_on_with,
    want_end,
    want_throw_again,
    want_set_word,
    want_tell_word,
)


def take_step(keep, asks):
    frame = keep.running.innermost()
    answer = asks.run(frame, keep.come)
    frame.place = min(frame.place + 1, PLACE_MOST)
    if answer < 0:
        return refuse(keep, NO_WANT)
    want = answer % 16
    if want >= len(WANTS):
        return refuse(keep, want)
    return WANTS[want](keep, asks, answer // 16)
