"""What happens in a world: letters are sent and arrive, calls come back, servers work, die and live again,
time and rounds pass.
"""

from answeredonce.state import Letter

ASKED = 0
WATCH = 1
UNWATCH = 2
ANSWER = 3
GONE = 4

CAME_ANSWER = 0
CAME_GONE = 1
CAME_OVER = 2
CAME_STOPPED = 3

ADD = 0
ADD_LATER = 1
HAND_ON = 2
DIE = 3
ADD_AND_DIE = 4

MODULUS = 1000003


def send(world, sender, receiver, told):
    world.air.append(Letter(sender, receiver, told))


# A place in the air is given back, not the letter: the letter is still to be taken out there. -1 is no place.
def first_on_its_way(world, sender, receiver):
    for place, letter in enumerate(world.air):
        if letter.sender == sender and letter.receiver == receiver:
            return place
    return -1


def comes_back(world, c, how, answer):
    caller = world.callers[c]
    wait = caller.waiting
    caller.came.append((wait.number, how, answer))
    caller.waiting = None
    # One who is gone has lost all who watched it: there is nothing to take back.
    if how != CAME_GONE:
        send(world, c, wait.server, (UNWATCH, wait.number))


def arrives(world, letter):
    if letter.receiver in world.servers:
        arrives_at_server(world, letter)
    else:
        arrives_at_caller(world, letter)


def arrives_at_server(world, letter):
    server = world.servers[letter.receiver]
    kind = letter.told[0]
    if kind == ASKED:
        if server.alive:
            server.asked.append(letter.told[1:])
    elif kind == WATCH:
        watch_arrives(world, letter)
    else:
        watcher = (letter.sender, letter.told[1])
        server.watchers = [other for other in server.watchers if other != watcher]


def watch_arrives(world, letter):
    server = world.servers[letter.receiver]
    number = letter.told[1]
    if server.alive:
        server.watchers.append((letter.sender, number))
    else:
        send(world, letter.receiver, letter.sender, (GONE, number))


def arrives_at_caller(world, letter):
    wait = world.callers[letter.receiver].waiting
    # What comes late must not be taken for what comes of the next call.
    if wait is None or wait.number != letter.told[1]:
        return
    if letter.told[0] == ANSWER:
        comes_back(world, letter.receiver, CAME_ANSWER, letter.told[2])
    else:
        comes_back(world, letter.receiver, CAME_GONE, 0)


def does_first(world, p):
    asked = world.servers[p].asked.pop(0)
    what = asked[2]
    if what == HAND_ON:
        # The fifth number is 0 but for a what of 2, so it is 0 in what is handed on.
        send(world, p, asked[4], (ASKED, asked[0], asked[1], ADD, asked[3], 0))
    elif what == DIE:
        dies(world, p)
    else:
        adds(world, p, asked)
    return asked


def adds(world, p, asked):
    server = world.servers[p]
    caller = asked[0]
    number = asked[1]
    what = asked[2]
    server.total = (server.total + asked[3]) % MODULUS
    # Caller 0 is nobody: no answer is wanted, now or later.
    if caller != 0:
        if what == ADD_LATER:
            server.later.append((caller, number, server.total))
        else:
            send(world, p, caller, (ANSWER, number, server.total))
    if what == ADD_AND_DIE:
        dies(world, p)


def dies(world, p):
    server = world.servers[p]
    for watcher in server.watchers:
        send(world, p, watcher[0], (GONE, watcher[1]))
    server.alive = False
    server.asked = []
    server.later = []
    server.watchers = []


# All else of the life before was lost when it died; its sum is told till the next life begins.
def lives_again(world, p):
    server = world.servers[p]
    server.alive = True
    server.lives += 1
    server.total = 0


def is_over(world, wait):
    return wait is not None and wait.ends == 1 and wait.over <= world.now


def time_passes(world, n):
    world.now += n
    for c in sorted(world.callers):
        if is_over(world, world.callers[c].waiting):
            comes_back(world, c, CAME_OVER, 0)


def one_turn(world):
    # The air is kept in the order of sending, so the letter sent first is at its head.
    if len(world.air) > 0:
        arrives(world, world.air.pop(0))
    for p in sorted(world.servers):
        # One who doesn't live was asked nothing: death took it, and nothing is put there since.
        if len(world.servers[p].asked) > 0:
            does_first(world, p)
