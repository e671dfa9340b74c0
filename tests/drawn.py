"""Lines of calls drawn from a fixed seed."""

import random

from tests.lines import (CALLERS, MOST, SERVERS, air, answer, ask, came, deliver, die, server, start, stop, tell, ticks,
                         turns, waits, work)

# How often a sort of call is drawn, beside the others: from ask, call 0, to air, call 13.
BUSY = (12, 4, 2, 16, 10, 5, 2, 5, 4, 4, 3, 3, 5, 2)
ASKING = (60, 3, 6, 2, 2, 2, 1, 3, 4, 1, 1, 1, 1, 1)


def drawn_what(draw):
    return draw.choice((0, 0, 0, 1, 1, 2, 2, 3, 4, 4))


def drawn_ask(draw, c, p):
    what = drawn_what(draw)
    other = draw.choice(SERVERS) if what == 2 else 0
    return ask(c, p, what, draw.choice((0, 1, 7, 999, 1000)), other, draw.randrange(2), draw.choice((0, 1, 2, 5, 10000)))


def drawn_deliver(draw, c, p):
    pair = draw.choice(((c, p), (c, p), (p, c), (p, c), (p, draw.choice(SERVERS))))
    return deliver(pair[0], pair[1])


def drawn_good(draw, sort):
    c = draw.choice(CALLERS)
    p = draw.choice((11, 11, 11, 12, 12, 13, 14))
    made = (
        lambda: drawn_ask(draw, c, p), lambda: tell(c, p, draw.choice((0, 3, 1000))), lambda: stop(c),
        lambda: drawn_deliver(draw, c, p), lambda: work(p), lambda: answer(p, draw.choice((1, 1, 1, 2, 3))),
        lambda: die(p), lambda: start(p), lambda: ticks(draw.choice((1, 1, 2, 3, 10000))),
        lambda: turns(draw.choice((0, 1, 1, 2, 3, 4, 7))), lambda: came(c), lambda: waits(c), lambda: server(p), air)
    return made[sort]()


def spoilt(draw, call):
    """The call with one of its numbers changed for one from an edge."""
    if len(call) > 1:
        place = draw.randrange(1, len(call))
        call[place] = draw.choice((0, 1, 2, 4, 5, 10, 11, 14, 15, 500, 501, 1000, 1001, 10000, 10001, MOST))
    return call


def drawn_call(draw, often):
    sort = draw.choices(range(14), often)[0]
    call = drawn_good(draw, sort)
    return spoilt(draw, call) if draw.randrange(12) == 0 else call


def drawn_line(seed, often=BUSY, rounds=True):
    """A hundred calls that mix all fourteen; with rounds 500 of them at one place."""
    draw = random.Random(seed)
    line = [drawn_good(draw, sort) for sort in range(14)]
    line += [drawn_call(draw, often) for step in range(85)]
    draw.shuffle(line)
    line.insert(draw.randrange(30, 100), turns(500) if rounds else turns(1))
    return line
