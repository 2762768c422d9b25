"""The given functions: what one call asks of them, and what they answer."""

from throwstack.parts import throw_of_number

RUN = 0
CLEAN = 1

WHY_RETURN = 0
WHY_THROW = 1
WHY_END = 2


class Asks:
    def __init__(self, replies):
        self.replies = replies
        self.asked = 0
        self.told = []

    def ask(self, numbers):
        self.told.extend(numbers)
        at = self.asked
        self.asked = at + 1
        return self.replies[at] if at < len(self.replies) else 0

    def run(self, frame, come):
        return self.ask((RUN, frame.function, frame.place) + come)

    # Answers what the last function throws, or None.
    def clean(self, function, why):
        answer = self.ask((CLEAN, function, why, 0, 0, 0))
        return throw_of_number(answer) if answer > 0 else None
