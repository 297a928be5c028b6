"""The calls of one line, answered one behind another."""

from sameworlds.setting import WRONG_TERM, Setting
from sameworlds.terms import NAMED
from sameworlds.worlds import ARE_SAME, DO_DIFFER, decided, how_many_kinds, sureness

SAME = 7
DIFFER = 8
DROP = 9
MARK = 10
BACK = 11
DECIDE = 12
SURELY = 13
KINDS = 14

# How many numbers stand behind the call's own, from same to shows.
BEHIND = (2, 2, 1, 0, 0, 0, 2, 0, 0)

NO_WORLD = -6


def answers(calls):
    """Give back, for each call in order, how many numbers are answered, then these."""
    setting = Setting()
    given = []
    place = 0
    while place < len(calls):
        call = calls[place]
        behind = place + 1 + how_many_numbers(call)
        answered = answer(setting, call, calls[place + 1:behind])
        given.append(len(answered))
        given.extend(answered)
        place = behind
    return given


def how_many_numbers(call):
    """Tell how many numbers stand behind the call's own."""
    if call < len(NAMED):
        return len(NAMED[call])
    return BEHIND[call - len(NAMED)]


def answer(setting, call, numbers):
    """Carry out one call; give back the list of numbers that it answers."""
    if call < len(NAMED):
        return [setting.make_term(call, numbers)]
    if call == SAME:
        return [setting.make_claim(ARE_SAME, numbers[0], numbers[1])]
    if call == DIFFER:
        return [setting.make_claim(DO_DIFFER, numbers[0], numbers[1])]
    if call == DROP:
        return [setting.drop_claim(numbers[0])]
    if call == MARK:
        return [setting.make_mark()]
    if call == BACK:
        return setting.go_back()
    return look(setting, call, numbers)


def look(setting, call, numbers):
    """Answer one of the calls that change nothing."""
    if call == DECIDE:
        return decided(setting.terms, setting.claims)
    if call == SURELY:
        return [surely(setting, numbers[0], numbers[1])]
    if call == KINDS:
        return [how_many_kinds(setting.terms, setting.claims)]
    return setting.show_all()


def surely(setting, t, u):
    if not setting.of_one_sort(t, u):
        return WRONG_TERM
    found = sureness(setting.terms, setting.claims, t, u)
    return NO_WORLD if found is None else found
