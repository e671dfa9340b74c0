"""What there is in a world: callers, servers, and the letters on their way."""


class Wait:
    def __init__(self, number, server, ends, over):
        self.number = number
        self.server = server
        self.ends = ends
        # Means something only where ends is 1.
        self.over = over


class Caller:
    def __init__(self):
        # A Wait, or None.
        self.waiting = None
        # Of each: the call's number, how it came back, the answer.
        self.came = []


class Server:
    def __init__(self):
        self.alive = True
        self.lives = 1
        self.total = 0
        # Of each: the caller, the call's number, what, how much, the other server.
        self.asked = []
        # Of each: the caller, the call's number, the answer.
        self.later = []
        # Of each: the caller, the call's number.
        self.watchers = []


class Letter:
    def __init__(self, sender, receiver, told):
        self.sender = sender
        self.receiver = receiver
        # Kept just as the calls answer it, its kind first, so that no other form is needed.
        self.told = told


class World:
    def __init__(self):
        self.now = 0
        # How many calls the callers made of servers: the last one's number.
        self.made = 0
        self.callers = {1: Caller(), 2: Caller(), 3: Caller(), 4: Caller()}
        self.servers = {11: Server(), 12: Server(), 13: Server(), 14: Server()}
        # The letters on their way, in the order in which they were sent.
        self.air = []
