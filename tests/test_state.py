"""What is kept, seen in the world itself: what came, the waits, the order of the letters sent, the sum."""

import unittest

from answeredonce.acts import answer, ask, deliver, die, stop, tell, work
from answeredonce.state import World
from tests.snapshots import letters_of, snapshot, waiting_of


def handed_over(world, c, p, what=0, much=0, other=0):
    ask(world, c, p, what, much, other, 0, 0)
    deliver(world, c, p)
    deliver(world, c, p)


class WhatCame(unittest.TestCase):
    def test_each_way_in_order(self):
        world = World()
        handed_over(world, 1, 11, 0, 5)
        work(world, 11)
        deliver(world, 11, 1)
        ask(world, 1, 12, 0, 5, 0, 1, 0)
        ask(world, 1, 12, 0, 5, 0, 0, 0)
        stop(world, 1)
        handed_over(world, 1, 13)
        die(world, 13)
        deliver(world, 13, 1)
        self.assertEqual(world.callers[1].came, [(1, 0, 5), (2, 2, 0), (3, 3, 0), (4, 1, 0)])

    def test_a_call_comes_back_once(self):
        world = World()
        handed_over(world, 1, 11, 4, 5)
        work(world, 11)
        deliver(world, 11, 1)
        deliver(world, 11, 1)
        self.assertEqual(world.callers[1].came, [(1, 0, 5)])

    def test_what_comes_late_is_not_kept(self):
        world = World()
        handed_over(world, 1, 11, 4, 5)
        work(world, 11)
        stop(world, 1)
        ask(world, 1, 12, 0, 0, 0, 0, 0)
        deliver(world, 11, 1)
        deliver(world, 11, 1)
        self.assertEqual(world.callers[1].came, [(1, 3, 0)])


class AtTheBeginning(unittest.TestCase):
    def test_nobody_waits_all_live_the_time_is_0(self):
        nobody = {c: (None, []) for c in (1, 2, 3, 4)}
        lively = {p: (True, 1, 0, [], [], []) for p in (11, 12, 13, 14)}
        self.assertEqual(snapshot(World()), (0, 0, nobody, lively, []))


class Waits(unittest.TestCase):
    def test_number_server_and_end(self):
        world = World()
        world.now = 7
        ask(world, 1, 11, 0, 0, 0, 1, 10000)
        ask(world, 2, 12, 0, 0, 0, 0, 10000)
        self.assertEqual(waiting_of(world.callers[1].waiting), (1, 11, 1, 10007))
        self.assertEqual(waiting_of(world.callers[2].waiting), (2, 12, 0, 0))
        self.assertIsNone(world.callers[3].waiting)


class LettersSent(unittest.TestCase):
    def test_gone_is_sent_in_the_order_in_which_they_watch(self):
        world = World()
        for c in (3, 1, 4):
            handed_over(world, c, 11)
        self.assertEqual(die(world, 11), [3])
        self.assertEqual(letters_of(world), [(11, 3, [4, 1]), (11, 1, [4, 2]), (11, 4, [4, 3])])

    def test_what_4_answers_ahead_of_each_gone(self):
        world = World()
        handed_over(world, 2, 11, 0, 3)
        handed_over(world, 1, 11, 4, 5)
        work(world, 11)
        work(world, 11)
        self.assertEqual(letters_of(world), [(11, 2, [3, 1, 3]), (11, 1, [3, 2, 8]), (11, 2, [4, 1]), (11, 1, [4, 2])])

    def test_over_at_once_sends_unwatch_behind_what_is_asked(self):
        world = World()
        ask(world, 1, 11, 2, 5, 12, 1, 0)
        self.assertEqual(letters_of(world), [(1, 11, [1, 1]), (1, 11, [0, 1, 1, 2, 5, 12]), (1, 11, [2, 1])])

    def test_a_letter_is_put_behind_those_on_their_way(self):
        world = World()
        tell(world, 1, 11, 5)
        handed_over(world, 2, 12, 1, 6)
        work(world, 12)
        answer(world, 12, 1)
        tell(world, 1, 13, 7)
        deliver(world, 12, 2)
        self.assertEqual(letters_of(world),
                         [(1, 11, [0, 0, 0, 0, 5, 0]), (1, 13, [0, 0, 0, 0, 7, 0]), (2, 12, [2, 1])])


class NobodyWantsAnAnswer(unittest.TestCase):
    """A caller tells only what 0; the other kinds are put straight behind what a server was asked."""

    def done_for_nobody(self, what, other=0):
        world = World()
        world.servers[11].asked.append((0, 0, what, 5, other))
        self.assertEqual(work(world, 11), [0, 0, what, 5, other])
        return world

    def test_add_and_answer_later(self):
        world = self.done_for_nobody(1)
        self.assertEqual((world.servers[11].total, world.servers[11].later, world.air), (5, [], []))

    def test_add_answer_and_die(self):
        world = self.done_for_nobody(4)
        self.assertEqual((world.servers[11].alive, world.air), (False, []))

    def test_hand_on(self):
        world = self.done_for_nobody(2, 12)
        self.assertEqual(letters_of(world), [(11, 12, [0, 0, 0, 0, 5, 0])])


class TheSum(unittest.TestCase):
    def sum_after(self, before, what, much):
        world = World()
        world.servers[12].total = before
        handed_over(world, 1, 12, what, much)
        work(world, 12)
        return world

    def test_modulo_1000003(self):
        for before, much, total in ((1000002, 0, 1000002), (1000001, 1, 1000002), (1000002, 1, 0), (1000002, 2, 1),
                                    (999003, 1000, 0), (999002, 1000, 1000002), (1000002, 1000, 999)):
            for what in (0, 1, 4):
                with self.subTest(before=before, much=much, what=what):
                    world = self.sum_after(before, what, much)
                    self.assertEqual(world.servers[12].total, total)
                    if what == 1:
                        self.assertEqual(answer(world, 12, 1), [1, 1, total])
                    self.assertEqual(deliver(world, 12, 1), [3, 1, total])

    def test_2_and_3_add_nothing(self):
        world = World()
        handed_over(world, 1, 12, 2, 5, 13)
        handed_over(world, 2, 12, 3, 6)
        work(world, 12)
        work(world, 12)
        self.assertEqual(world.servers[12].total, 0)

    def test_many_adds_go_round(self):
        world = World()
        for turn in range(1001):
            tell(world, 1, 11, 1000)
            deliver(world, 1, 11)
            work(world, 11)
        self.assertEqual(world.servers[11].total, 1001000 - 1000003)


class Death(unittest.TestCase):
    def test_nothing_is_left_but_the_count_of_its_lives(self):
        world = World()
        handed_over(world, 1, 11, 1, 5)
        handed_over(world, 2, 11, 0, 6)
        work(world, 11)
        self.assertEqual(die(world, 11), [2])
        dead = world.servers[11]
        self.assertEqual((dead.alive, dead.lives, dead.asked, dead.later, dead.watchers), (False, 1, [], [], []))


if __name__ == "__main__":
    unittest.main()
