"""All that a world holds, as plain values that can be compared."""


def waiting_of(wait):
    return None if wait is None else (wait.number, wait.server, wait.ends, wait.over)


def letters_of(world):
    return [(letter.sender, letter.receiver, list(letter.told)) for letter in world.air]


def server_of(server):
    return (server.alive, server.lives, server.total, list(server.asked), list(server.later), list(server.watchers))


def snapshot(world):
    callers = {c: (waiting_of(caller.waiting), list(caller.came)) for c, caller in world.callers.items()}
    servers = {p: server_of(server) for p, server in world.servers.items()}
    return (world.now, world.made, callers, servers, letters_of(world))
