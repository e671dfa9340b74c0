"""The document once more, built another way than the package: the long lines are held against it.

Letters lie in a queue for each pair, with the serial number of their sending; a call's fate lies with the call.
"""

CALLERS = (1, 2, 3, 4)
SERVERS = (11, 12, 13, 14)
SIZES = {0: 7, 1: 3, 2: 1, 3: 2, 4: 1, 5: 2, 6: 1, 7: 1, 8: 1, 9: 1, 10: 1, 11: 1, 12: 1, 13: 0}


class Refused(Exception):
    pass


def refuse(number, when):
    if when:
        raise Refused(number)


class Model:
    def __init__(self):
        self.time = 0
        self.serial = 0
        self.queues = {}
        # Of each call, at its number less one: caller, server, the end or None.
        self.calls = []
        # Calls that came back, in the order in which they did: number, how, answer.
        self.fates = []
        self.lives = dict.fromkeys(SERVERS, 1)
        self.living = set(SERVERS)
        self.sums = dict.fromkeys(SERVERS, 0)
        self.asked = {p: [] for p in SERVERS}
        self.later = {p: [] for p in SERVERS}
        self.watches = {p: {} for p in SERVERS}

    def post(self, sender, receiver, *letter):
        self.serial += 1
        self.queues.setdefault((sender, receiver), []).append((self.serial, letter))

    def letters(self):
        return sorted((serial, pair, letter) for pair, queue in self.queues.items() for serial, letter in queue)

    def open_call(self, c):
        ended = {fate[0] for fate in self.fates}
        still = [k for k, call in enumerate(self.calls, 1) if call[0] == c and k not in ended]
        return still[0] if still else None

    def end_call(self, number, how, answer=0):
        self.fates.append((number, how, answer))
        c, p, end = self.calls[number - 1]
        if how != 1:
            self.post(c, p, 2, number)

    def receive(self, sender, receiver):
        letter = self.queues[sender, receiver].pop(0)[1]
        sort, number = letter[0], letter[1]
        if receiver in CALLERS:
            if self.open_call(receiver) == number:
                self.end_call(number, 0 if sort == 3 else 1, letter[2] if sort == 3 else 0)
        elif sort == 2:
            self.watches[receiver].pop((sender, number), None)
        elif receiver not in self.living:
            if sort == 1:
                self.post(receiver, sender, 4, number)
        elif sort == 1:
            self.watches[receiver][sender, number] = True
        else:
            self.asked[receiver].append(letter[1:])
        return letter

    def kill(self, p):
        for c, number in self.watches[p]:
            self.post(p, c, 4, number)
        self.living.discard(p)
        self.asked[p], self.later[p], self.watches[p] = [], [], {}

    def labour(self, p):
        job = self.asked[p].pop(0)
        c, number, what, much, other = job
        if what in (0, 1, 4):
            self.sums[p] = (self.sums[p] + much) % 1000003
        if what in (0, 4) and c:
            self.post(p, c, 3, number, self.sums[p])
        if what == 1 and c:
            self.later[p].append((c, number, self.sums[p]))
        if what == 2:
            self.post(p, other, 0, c, number, 0, much, 0)
        if what in (3, 4):
            self.kill(p)
        return job

    def do_0(self, c, p, what, much, other, ends, ticks):
        refuse(-1, c not in CALLERS or p not in SERVERS or what > 4 or much > 1000)
        refuse(-1, other not in SERVERS if what == 2 else other != 0)
        refuse(-2, ends > 1 or ticks > 10000)
        refuse(-8, self.open_call(c) is not None)
        refuse(-6, len(self.letters()) >= 150)
        self.calls.append((c, p, self.time + ticks if ends else None))
        number = len(self.calls)
        self.post(c, p, 1, number)
        self.post(c, p, 0, c, number, what, much, other)
        self.look_at_the_time()
        return [number]

    def do_1(self, c, p, much):
        refuse(-1, c not in CALLERS or p not in SERVERS or much > 1000)
        refuse(-6, len(self.letters()) >= 150)
        self.post(c, p, 0, 0, 0, 0, much, 0)
        return [0]

    def do_2(self, c):
        refuse(-1, c not in CALLERS)
        number = self.open_call(c)
        refuse(-8, number is None)
        self.end_call(number, 3)
        return [number]

    def do_3(self, p, q):
        refuse(-5, not self.queues.get((p, q)))
        return self.receive(p, q)

    def do_4(self, p):
        refuse(-1, p not in SERVERS)
        refuse(-8, p not in self.living)
        refuse(-5, not self.asked[p])
        return self.labour(p)

    def do_5(self, p, k):
        refuse(-1, p not in SERVERS)
        refuse(-5, not 1 <= k <= len(self.later[p]))
        c, number, total = self.later[p].pop(k - 1)
        self.post(p, c, 3, number, total)
        return [c, number, total]

    def do_6(self, p):
        refuse(-1, p not in SERVERS)
        refuse(-8, p not in self.living)
        watching = len(self.watches[p])
        self.kill(p)
        return [watching]

    def do_7(self, p):
        refuse(-1, p not in SERVERS)
        refuse(-8, p in self.living)
        self.living.add(p)
        self.lives[p] += 1
        self.sums[p] = 0
        return [self.lives[p]]

    def look_at_the_time(self):
        for c in CALLERS:
            number = self.open_call(c)
            end = self.calls[number - 1][2] if number else None
            if end is not None and self.time >= end:
                self.end_call(number, 2)

    def do_8(self, n):
        refuse(-1, not 1 <= n <= 10000)
        self.time += n
        self.look_at_the_time()
        return [self.time]

    def do_9(self, n):
        refuse(-1, n > 500)
        for k in range(n):
            heads = [(queue[0][0], pair) for pair, queue in self.queues.items() if queue]
            if heads:
                self.receive(*min(heads)[1])
            for p in SERVERS:
                if self.asked[p]:
                    self.labour(p)
        return [len(self.letters())]

    def do_10(self, c):
        refuse(-1, c not in CALLERS)
        fates = [fate for fate in self.fates if self.calls[fate[0] - 1][0] == c]
        return [len(fates)] + [number for fate in fates for number in fate]

    def do_11(self, c):
        refuse(-1, c not in CALLERS)
        number = self.open_call(c)
        if number is None:
            return [0]
        caller, p, end = self.calls[number - 1]
        return [1, number, p, 0] if end is None else [1, number, p, 1, end]

    def do_12(self, p):
        refuse(-1, p not in SERVERS)
        told = [int(p in self.living), self.lives[p], self.sums[p]]
        for rows in (self.asked[p], self.later[p], list(self.watches[p])):
            told += [len(rows)] + [number for row in rows for number in row]
        return told

    def do_13(self):
        letters = self.letters()
        return [len(letters)] + [number for serial, pair, letter in letters for number in pair + letter]


def model_answers(calls):
    model = Model()
    rest = list(calls)
    told = []
    while rest:
        call = rest.pop(0)
        given = [rest.pop(0) for k in range(SIZES[call])]
        try:
            numbers = getattr(model, f"do_{call}")(*given)
        except Refused as refused:
            numbers = refused.args
        told += [len(numbers), *numbers]
    return told
