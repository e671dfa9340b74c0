"""Calls written by name, and the answers to a line of them, call by call."""

from answeredonce.world import answers

MOST = 4294967295
CALLERS = (1, 2, 3, 4)
SERVERS = (11, 12, 13, 14)


def ask(c, p, what=0, much=0, other=0, ends=0, ticks=0):
    return [0, c, p, what, much, other, ends, ticks]


def tell(c, p, much=0):
    return [1, c, p, much]


def stop(c):
    return [2, c]


def deliver(p, q):
    return [3, p, q]


def work(p):
    return [4, p]


def answer(p, k):
    return [5, p, k]


def die(p):
    return [6, p]


def start(p):
    return [7, p]


def ticks(n):
    return [8, n]


def turns(n):
    return [9, n]


def came(c):
    return [10, c]


def waits(c):
    return [11, c]


def server(p):
    return [12, p]


def air():
    return [13]


def all_looks():
    """The calls that together tell all of a world but the time and the number of the next call."""
    return [came(c) for c in CALLERS] + [waits(c) for c in CALLERS] + [server(p) for p in SERVERS] + [air()]


def handed_over(c, p, what=0, much=0, other=0):
    """Caller c asks server p, and both letters arrive."""
    return [ask(c, p, what, much, other), deliver(c, p), deliver(c, p)]


def told(c, p, much):
    """Caller c tells server p, and that is done."""
    return [tell(c, p, much), deliver(c, p), work(p)]


def letters_149():
    """Forty-nine calls that are over at once, three letters each from 1 to 11, and two letters from 2 to 12."""
    return [ask(1, 11, ends=1)] * 49 + [tell(2, 12)] * 2


def split(numbers):
    parts = []
    at = 0
    while at < len(numbers):
        behind = at + 1 + numbers[at]
        part = numbers[at + 1:behind]
        if len(part) != numbers[at] or not part:
            raise AssertionError(f"a count that does not fit: {numbers}")
        parts.append(part)
        at = behind
    return parts


def run(calls):
    """The answers to a line of calls, a list for each."""
    line = [number for call in calls for number in call]
    parts = split(answers(line))
    if len(parts) != len(calls):
        raise AssertionError(f"{len(calls)} calls, {len(parts)} answers")
    return parts


def after(before, calls):
    """The answers to calls that are made behind others."""
    return run(list(before) + list(calls))[len(before):]
