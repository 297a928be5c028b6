"""The calls of one line, answered one behind another."""

from sameworlds.setting import Setting
from sameworlds.terms import NAMED

SAME = 7


def answers(calls):
    """Give back, for each call in order, how many numbers are answered, then these."""
    setting = Setting()
    given = []
    place = 0
    while place < len(calls):
        call = calls[place]
        behind = place + 1 + how_many_numbers(call)
        answered = answer(setting, call, calls[place + 1:behind])
        given.append(len(answered))
        given.extend(answered)
        place = behind
    return given


def how_many_numbers(call):
    """Tell how many numbers stand behind the call's own."""
    if call < len(NAMED):
        return len(NAMED[call])
    if call == SAME:
        return 2
    raise NotImplementedError(f"call {call}")


def answer(setting, call, numbers):
    """Carry out one call; give back the list of numbers that it answers."""
    if call == SAME:
        return [setting.claim_same(numbers[0], numbers[1])]
    return [setting.make_term(call, numbers)]
