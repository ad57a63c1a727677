"""Calls and orders by name, and answers call by call."""

from waitingscripts.threads import answers

HIGHEST = 4294967295
JOIN = [8]
END = [10]
TICK = [2]
THREADS = [8]
STATE = [10]


def say(n):
    return [0, n]


def wait(n):
    return [1, n]


def hear(w):
    return [2, w]


def send(w):
    return [3, w]


def set_all(which, n):
    return [4, 1, which, n]


def set_own(which, n):
    return [4, 0, which, n]


def add_all(which, n):
    return [5, 1, which, n]


def add_own(which, n):
    return [5, 0, which, n]


def go_all(which, n, place):
    return [6, 1, which, n, place]


def go_own(which, n, place):
    return [6, 0, which, n, place]


def go(place):
    """Always goes: every number is at least 0."""
    return go_own(0, 0, place)


def begin_own(script):
    return [7, script, 0]


def begin_for(script, owner):
    return [7, script, owner + 1]


def stop_order(owner):
    return [9, owner]


def script(*orders):
    row = sum(orders, [])
    return [0, len(row)] + row


def begin(script_number, owner=0):
    return [1, script_number, owner]


def ticks(many):
    return [3, many]


def word(which):
    return [4, which]


def stop(owner):
    return [5, owner]


def value(which):
    return [6, which]


def set_value(which, number):
    return [7, which, number]


def thread(number):
    return [9, number]


ALL_VALUES = [value(which) for which in range(10)]


def ask(*calls):
    """The answer to each of these calls, with the lengths checked and taken off."""
    assert 1 <= len(calls) <= 40, len(calls)
    given = answers(sum(calls, []))
    split = []
    at = 0
    while at < len(given):
        split.append(given[at + 1:at + 1 + given[at]])
        at += 1 + given[at]
    assert at == len(given), given
    assert len(split) == len(calls), given
    return split


def last(*calls):
    return ask(*calls)[-1]


def without(at, given):
    """The answers but the one at this place."""
    return given[:at] + given[at + 1:]


def shown(*calls):
    """All that can be seen behind these calls: the state, the threads, each of them, the numbers of all."""
    state, numbers_of = ask(*calls, STATE, THREADS)[-2:]
    each = [thread(number) for number in numbers_of[1::3]]
    return [state, numbers_of] + ask(*calls, *each, *ALL_VALUES)[len(calls):]
