"""The calls that tell of a world and change nothing in it."""

from answeredonce.limits import NOT_THERE


def counted(rows):
    numbers = [len(rows)]
    for row in rows:
        numbers.extend(row)
    return numbers


def came(world, c):
    if c not in world.callers:
        return [NOT_THERE]
    return counted(world.callers[c].came)


def waits(world, c):
    if c not in world.callers:
        return [NOT_THERE]
    wait = world.callers[c].waiting
    if wait is None:
        return [0]
    end = [1, wait.over] if wait.ends == 1 else [0]
    return [1, wait.number, wait.server] + end


def server(world, p):
    if p not in world.servers:
        return [NOT_THERE]
    shown = world.servers[p]
    # True is not a whole number of those that are answered.
    alive = 1 if shown.alive else 0
    return [alive, shown.lives, shown.total] + counted(shown.asked) + counted(shown.later) + counted(shown.watchers)


def air(world):
    return counted([(letter.sender, letter.receiver) + letter.told for letter in world.air])
