"""What the document says of each call, held against lines drawn from a fixed seed."""

import unittest

from answeredonce.state import World
from answeredonce.world import answer_to
from tests.drawn import drawn_line
from tests.lines import CALLERS, SERVERS, air, came, deliver, run, server, turns, waits, work
from tests.snapshots import snapshot

SEEDS = range(300)


def act(world, call):
    return answer_to(world, call[0], call[1:])


def world_after(calls):
    world = World()
    for call in calls:
        act(world, call)
    return world


def rows(numbers, width):
    return [tuple(numbers[at:at + width]) for at in range(0, len(numbers), width)]


def came_back(world):
    return [row for c in CALLERS for row in rows(act(world, came(c))[1:], 3)]


def waited_for(world):
    """Of each who waits: the caller, the call's number, the server."""
    told = [(c, act(world, waits(c))) for c in CALLERS]
    return [(c, numbers[1], numbers[2]) for c, numbers in told if numbers[0] == 1]


def first_letter(world):
    """From whom and to whom the letter goes that was sent first, or None."""
    told = act(world, air())
    return tuple(told[1:3]) if told[0] else None


def round_by_hand(world):
    """Each delivery and work of a round, with what is answered."""
    steps = []
    pair = first_letter(world)
    if pair is not None:
        call = deliver(pair[0], pair[1])
        steps.append((call, act(world, call)))
    for p in SERVERS:
        if act(world, server(p))[3] > 0:
            steps.append((work(p), act(world, work(p))))
    return steps


def gone_through(calls):
    """The world behind a line, and each call with what is answered: rounds are gone through by hand."""
    world = World()
    steps = []
    for call in calls:
        if call[0] == 9 and call[1] <= 500:
            for step in range(call[1]):
                steps += round_by_hand(world)
        else:
            steps.append((call, act(world, call)))
    return world, steps


class Walks(unittest.TestCase):
    def on_each_line(self, check):
        for seed in SEEDS:
            with self.subTest(seed=seed):
                check(drawn_line(seed, rounds=seed % 2 == 0))

    def test_a_refused_call_might_as_well_not_be_there(self):
        def check(calls):
            answered = run(calls)
            done = [call for call, numbers in zip(calls, answered) if numbers[0] >= 0]
            self.assertEqual(run(done), [numbers for numbers in answered if numbers[0] >= 0])

        self.on_each_line(check)

    def test_each_call_comes_back_once_or_is_waited_for(self):
        def check(calls):
            world = world_after(calls)
            numbers = [row[0] for row in came_back(world)] + [row[1] for row in waited_for(world)]
            self.assertEqual(sorted(numbers), list(range(1, world.made + 1)))

        self.on_each_line(check)

    def test_what_is_asked_is_done_once_at_most(self):
        def check(calls):
            done = [numbers[1] for call, numbers in gone_through(calls)[1]
                    if call[0] == 4 and numbers[0] > 0 and numbers[2] != 2]
            self.assertEqual(len(done), len(set(done)))

        self.on_each_line(check)

    def test_an_answer_is_an_answer_to_this_very_call(self):
        def check(calls):
            world, steps = gone_through(calls)
            sent = {numbers[1]: numbers[2] for call, numbers in steps if call[0] == 3 and numbers[0] == 3}
            for number, how, answered in came_back(world):
                self.assertEqual(answered, sent[number] if how == 0 else 0)

        self.on_each_line(check)

    def test_a_round_is_a_delivery_and_the_work_of_each(self):
        def check(calls):
            world = world_after(calls)
            other = gone_through(calls)[0]
            self.assertEqual(snapshot(world), snapshot(other))
            for n in (1, 2, 5):
                act(world, turns(n))
                for step in range(n):
                    round_by_hand(other)
                self.assertEqual(snapshot(world), snapshot(other))

        self.on_each_line(check)

    def test_nobody_waits_for_one_who_is_gone_when_all_has_arrived(self):
        def check(calls):
            world = world_after(calls)
            while first_letter(world) is not None:
                pair = first_letter(world)
                act(world, deliver(pair[0], pair[1]))
            watched = [(c, number, p) for p in SERVERS for c, number in world.servers[p].watchers]
            self.assertEqual(sorted(watched), waited_for(world))

        self.on_each_line(check)


if __name__ == "__main__":
    unittest.main()
