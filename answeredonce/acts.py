"""The calls about one caller, one server or one letter: each refuses or does what it says, and gives back the list of
the numbers it answers.
"""

from answeredonce.events import ADD, ANSWER, ASKED, CAME_OVER, CAME_STOPPED, HAND_ON, WATCH
from answeredonce.events import arrives, comes_back, dies, does_first, first_on_its_way, lives_again, send
from answeredonce.limits import BAD_END, FULL_AIR, MOST_MUCH, MOST_TICKS, MOST_WHAT
from answeredonce.limits import NOT_NOW, NOT_THERE, NOTHING, TOO_MANY
from answeredonce.state import Wait


def asked_badly(world, c, p, what, much, other):
    if c not in world.callers or p not in world.servers:
        return True
    if what > MOST_WHAT or much > MOST_MUCH:
        return True
    if what == HAND_ON:
        return other not in world.servers
    return other != 0


def ask(world, c, p, what, much, other, ends, ticks):
    if asked_badly(world, c, p, what, much, other):
        return [NOT_THERE]
    if ends > 1 or ticks > MOST_TICKS:
        return [BAD_END]
    if world.callers[c].waiting is not None:
        return [NOT_NOW]
    if len(world.air) >= FULL_AIR:
        return [TOO_MANY]
    world.made += 1
    number = world.made
    over = world.now + ticks if ends == 1 else 0
    world.callers[c].waiting = Wait(number, p, ends, over)
    send(world, c, p, (WATCH, number))
    send(world, c, p, (ASKED, c, number, what, much, other))
    if ends == 1 and ticks == 0:
        comes_back(world, c, CAME_OVER, 0)
    return [number]


def tell(world, c, p, much):
    if asked_badly(world, c, p, ADD, much, 0):
        return [NOT_THERE]
    if len(world.air) >= FULL_AIR:
        return [TOO_MANY]
    send(world, c, p, (ASKED, 0, 0, ADD, much, 0))
    return [0]


def stop(world, c):
    if c not in world.callers:
        return [NOT_THERE]
    wait = world.callers[c].waiting
    if wait is None:
        return [NOT_NOW]
    comes_back(world, c, CAME_STOPPED, 0)
    return [wait.number]


def deliver(world, p, q):
    place = first_on_its_way(world, p, q)
    if place < 0:
        return [NOTHING]
    letter = world.air.pop(place)
    arrives(world, letter)
    return list(letter.told)


def work(world, p):
    if p not in world.servers:
        return [NOT_THERE]
    if not world.servers[p].alive:
        return [NOT_NOW]
    if len(world.servers[p].asked) == 0:
        return [NOTHING]
    return list(does_first(world, p))


def answer(world, p, k):
    if p not in world.servers:
        return [NOT_THERE]
    later = world.servers[p].later
    if k < 1 or k > len(later):
        return [NOTHING]
    owed = later.pop(k - 1)
    send(world, p, owed[0], (ANSWER, owed[1], owed[2]))
    return list(owed)


def die(world, p):
    if p not in world.servers:
        return [NOT_THERE]
    if not world.servers[p].alive:
        return [NOT_NOW]
    watched = len(world.servers[p].watchers)
    dies(world, p)
    return [watched]


def start(world, p):
    if p not in world.servers:
        return [NOT_THERE]
    if world.servers[p].alive:
        return [NOT_NOW]
    lives_again(world, p)
    return [world.servers[p].lives]
