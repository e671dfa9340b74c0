"""A line's calls, one behind another in one list, and their answers.

What is given back has for each call, in order, how many numbers are answered, and these.
"""

from answeredonce.acts import answer, ask, deliver, die, stop, tell, work
from answeredonce.state import World

CALL_ASK = 0
CALL_TELL = 1
CALL_STOP = 2
CALL_DELIVER = 3
CALL_WORK = 4
CALL_ANSWER = 5

# How many numbers stand behind a call's own number, call by call.
GIVEN = (7, 3, 1, 2, 1, 2, 1)


def answer_to(world, call, given):
    if call == CALL_ASK:
        return ask(world, given[0], given[1], given[2], given[3], given[4], given[5], given[6])
    if call == CALL_TELL:
        return tell(world, given[0], given[1], given[2])
    if call == CALL_STOP:
        return stop(world, given[0])
    if call == CALL_DELIVER:
        return deliver(world, given[0], given[1])
    if call == CALL_WORK:
        return work(world, given[0])
    if call == CALL_ANSWER:
        return answer(world, given[0], given[1])
    # The one call that is left is die: GIVEN knows no other.
    return die(world, given[0])


def answers(calls):
    world = World()
    told = []
    at = 0
    while at < len(calls):
        call = calls[at]
        behind = at + 1 + GIVEN[call]
        numbers = answer_to(world, call, calls[at + 1:behind])
        told.append(len(numbers))
        told.extend(numbers)
        at = behind
    return told
