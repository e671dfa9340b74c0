"""What the document says of each call, held against lines drawn from a fixed seed."""

import random
import unittest

from answeredonce.acts import deliver as act_deliver
from answeredonce.state import World
from answeredonce.world import answer_to
from tests.lines import answer, ask, deliver, die, run, stop, tell, work

CALLERS = (1, 2, 3, 4)
SERVERS = (11, 12, 13, 14)
SEEDS = range(300)


def drawn_call(draw):
    c = draw.choice(CALLERS)
    p = draw.choice(SERVERS[:2])
    sort = draw.randrange(16)
    if sort < 3:
        what = draw.choice((0, 0, 1, 2, 2, 3, 4, 5))
        other = draw.choice(SERVERS) if what == 2 else 0
        return ask(c, p, what, draw.choice((1, 1000, 1001)), other, draw.randrange(2), draw.randrange(2))
    if sort == 3:
        return tell(c, p, draw.choice((1, 1000)))
    if sort == 4:
        return stop(c)
    if sort < 8:
        return deliver(c, p)
    if sort < 10:
        return deliver(p, c)
    if sort == 10:
        return deliver(p, draw.choice(SERVERS))
    if sort < 14:
        return work(draw.choice(SERVERS[:3]))
    if sort == 14:
        return answer(p, draw.randrange(3))
    return die(p) if draw.randrange(4) == 0 else work(p)


def drawn_line(seed):
    draw = random.Random(seed)
    return [drawn_call(draw) for step in range(100)]


def world_after(calls):
    world = World()
    for call in calls:
        answer_to(world, call[0], call[1:])
    return world


class Walks(unittest.TestCase):
    def on_each_line(self, check):
        for seed in SEEDS:
            with self.subTest(seed=seed):
                check(drawn_line(seed))

    def test_a_refused_call_might_as_well_not_be_there(self):
        def check(calls):
            answered = run(calls)
            done = [call for call, numbers in zip(calls, answered) if numbers[0] >= 0]
            self.assertEqual(run(done), [numbers for numbers in answered if numbers[0] >= 0])

        self.on_each_line(check)

    def test_each_call_comes_back_once_or_is_waited_for(self):
        def check(calls):
            world = world_after(calls)
            numbers = [came[0] for caller in world.callers.values() for came in caller.came]
            numbers += [caller.waiting.number for caller in world.callers.values() if caller.waiting is not None]
            self.assertEqual(sorted(numbers), list(range(1, world.made + 1)))

        self.on_each_line(check)

    def test_what_is_asked_is_done_once_at_most(self):
        def check(calls):
            done = [numbers[1] for call, numbers in zip(calls, run(calls))
                    if call[0] == 4 and numbers[0] > 0 and numbers[2] != 2]
            self.assertEqual(len(done), len(set(done)))

        self.on_each_line(check)

    def test_an_answer_is_an_answer_to_this_very_call(self):
        def check(calls):
            sent = {}
            for call, numbers in zip(calls, run(calls)):
                if call[0] == 3 and numbers[0] == 3:
                    sent[numbers[1]] = numbers[2]
            for caller in world_after(calls).callers.values():
                for number, how, answered in caller.came:
                    self.assertEqual(answered, sent[number] if how == 0 else 0)

        self.on_each_line(check)

    def test_nobody_waits_for_one_who_is_gone_when_all_has_arrived(self):
        def check(calls):
            world = world_after(calls)
            while world.air:
                letter = world.air[0]
                act_deliver(world, letter.sender, letter.receiver)
            watched = sorted((watcher, p) for p, server in world.servers.items() for watcher in server.watchers)
            waited = sorted(((c, caller.waiting.number), caller.waiting.server)
                            for c, caller in world.callers.items() if caller.waiting is not None)
            self.assertEqual(watched, waited)

        self.on_each_line(check)


if __name__ == "__main__":
    unittest.main()
