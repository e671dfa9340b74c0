"""The calls by which time and rounds pass for the whole world."""

from answeredonce.events import one_turn, time_passes
from answeredonce.limits import MOST_TICKS, MOST_TURNS, NOT_THERE


def ticks(world, n):
    if n < 1 or n > MOST_TICKS:
        return [NOT_THERE]
    time_passes(world, n)
    return [world.now]


def turns(world, n):
    if n > MOST_TURNS:
        return [NOT_THERE]
    for turn in range(n):
        one_turn(world)
    return [len(world.air)]
