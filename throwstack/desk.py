"""The desk: takes a line of calls as one list of whole numbers, and answers them as one list."""

from throwstack.asking import Asks
from throwstack.keeping import Keep
from throwstack.outside import do_call, how_many_numbers


def answers(calls):
    keep = Keep()
    result = []
    at = 0
    while at < len(calls):
        count_at = at + 1 + how_many_numbers(calls[at])
        behind = count_at + 1 + calls[count_at]
        asks = Asks(calls[count_at + 1:behind])
        told = do_call(keep, asks, calls[at], calls[at + 1:count_at])
        result.append(1 + len(asks.told) + len(told))
        result.append(asks.asked)
        result.extend(asks.told)
        result.extend(told)
        at = behind
    return result
