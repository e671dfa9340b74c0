"""A line's calls, one behind another in one list, and their answers.

What is given back has for each call, in order, how many numbers are answered, and these.
"""

from answeredonce.acts import answer, ask, deliver, die, start, stop, tell, work
from answeredonce.looks import air, came, server, waits
from answeredonce.passing import ticks, turns
from answeredonce.state import World

CALL_ASK = 0
CALL_TELL = 1
CALL_STOP = 2
CALL_DELIVER = 3
CALL_WORK = 4
CALL_ANSWER = 5
CALL_DIE = 6
CALL_START = 7
CALL_TICKS = 8
CALL_TURNS = 9
CALL_CAME = 10
CALL_WAITS = 11
CALL_SERVER = 12

# How many numbers stand behind a call's own number, call by call.
GIVEN = (7, 3, 1, 2, 1, 2, 1, 1, 1, 1, 1, 1, 1, 0)


def answer_to(world, call, given):
    if call == CALL_ASK:
        return ask(world, given[0], given[1], given[2], given[3], given[4], given[5], given[6])
    if call == CALL_TELL:
        return tell(world, given[0], given[1], given[2])
    if call == CALL_STOP:
        return stop(world, given[0])
    if call == CALL_DELIVER:
        return deliver(world, given[0], given[1])
    if call == CALL_WORK:
        return work(world, given[0])
    if call == CALL_ANSWER:
        return answer(world, given[0], given[1])
    if call == CALL_DIE:
        return die(world, given[0])
    if call == CALL_START:
        return start(world, given[0])
    if call == CALL_TICKS:
        return ticks(world, given[0])
    if call == CALL_TURNS:
        return turns(world, given[0])
    return look_at(world, call, given)


def look_at(world, call, given):
    if call == CALL_CAME:
        return came(world, given[0])
    if call == CALL_WAITS:
        return waits(world, given[0])
    if call == CALL_SERVER:
        return server(world, given[0])
    # The one call that is left is air: GIVEN knows no other.
    return air(world)


def answers(calls):
    world = World()
    told = []
    at = 0
    while at < len(calls):
        call = calls[at]
        behind = at + 1 + GIVEN[call]
        numbers = answer_to(world, call, calls[at + 1:behind])
        told.append(len(numbers))
        told.extend(numbers)
        at = behind
    return told
