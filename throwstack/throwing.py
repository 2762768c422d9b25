"""How a throw goes on, and how the acts of a frame go."""

from throwstack.asking import WHY_END, WHY_THROW
from throwstack.parts import EVERY_KIND, LAST, in_place_of

UNCAUGHT = 1
CAUGHT = 2


# Takes the newest act away without looking for a handler; answers what its last function throws, or None.
def drop_act(asks, frame, why):
    act = frame.acts.pop()
    if act[0] != LAST:
        return None
    return asks.clean(act[1], why)


# Answers what the call tells if nobody catches the throw, else None.
def throw_on(keep, asks, throw):
    while keep.running is not None:
        stack = keep.running
        throw = throw_through_frame(keep, asks, throw)
        if throw is None:
            return None
        keep.drop_frame(stack)
        if not stack.frames:
            keep.drop_stack(stack)
            keep.take_off()
    keep.uncaught = throw
    return [UNCAUGHT, throw.kind, throw.value, len(throw.causes)]


# Answers the throw that leaves the innermost frame, or None if it was caught there.
def throw_through_frame(keep, asks, throw):
    frame = keep.running.innermost()
    while frame.acts:
        if catches(frame.acts[-1], throw):
            frame.acts.pop()
            frame.caught = throw
            keep.come = (CAUGHT, throw.value, throw.kind)
            return None
        thrown = drop_act(asks, frame, WHY_THROW)
        if thrown is not None:
            throw = in_place_of(throw, thrown)
    return throw


def catches(act, throw):
    return act[0] != LAST and act[1] in (EVERY_KIND, throw.kind)


# Ends a cut stack; answers the throws of its last functions in the order in which they came.
def end_stack(keep, asks, stack):
    throws = []
    while stack.frames:
        frame = stack.innermost()
        while frame.acts:
            thrown = drop_act(asks, frame, WHY_END)
            if thrown is not None:
                throws.append(thrown)
        keep.drop_frame(stack)
    keep.drop_stack(stack)
    return throws


# The last of several throws, with those before it as its causes; there is one at least.
def joined(throws):
    throw = throws[0]
    for newer in throws[1:]:
        throw = in_place_of(throw, newer)
    return throw
