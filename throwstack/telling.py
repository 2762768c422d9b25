"""What is kept, told by numbers to those who look at it from outside; nothing changes by it."""

ON = 1
CUT = 0
NOBODY = -1


def tell_frames(stack):
    told = [len(stack.frames)]
    for frame in reversed(stack.frames):
        told.extend([frame.function, frame.place])
        told.extend(frame.words)
        told.append(len(frame.acts))
    return told


def tell_acts(frame):
    told = [len(frame.acts)]
    for act in reversed(frame.acts):
        told.extend(act)
    return told


# stacks has a place for each number, so that they stand in the order of their numbers.
def tell_row(stacks):
    there = [stack for stack in stacks if stack is not None]
    told = [len(there)]
    for stack in there:
        waiter = NOBODY if stack.waiter is None else stack.waiter.number
        told.extend([stack.number, ON if stack.on else CUT, waiter])
    return told


def tell_pieces(stack):
    return [len(stack.pieces)] + stack.pieces


def tell_causes(throw):
    told = [len(throw.causes), throw.kind, throw.value]
    for cause in throw.causes:
        told.extend(cause)
    return told
