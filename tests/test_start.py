"""A server that died lives again: its lives, its sum, what it has left, and what arrives afterwards."""

import unittest

from tests.lines import (after, air, answer, ask, came, deliver, die, handed_over, run, server, start, stop, tell,
                         told, waits, work)

NEW = [1, 1, 0, 0, 0, 0]


def busy_and_dead():
    """Server 11 with a sum of 5, one to answer later, one that it was asked, two who watch; and then it dies."""
    return handed_over(1, 11, 1, 5) + [work(11)] + handed_over(2, 11, 0, 6) + [die(11)]


class LivesAgain(unittest.TestCase):
    def test_with_a_sum_of_0_nothing_asked_nothing_later_and_nobody_who_watches(self):
        before = handed_over(1, 11, 1, 5) + [work(11)] + handed_over(2, 11, 0, 6)
        self.assertEqual(
            after(before, [server(11), die(11), server(11), start(11), server(11)]),
            [[1, 1, 5, 1, 2, 2, 0, 6, 0, 1, 1, 1, 5, 2, 1, 1, 2, 2], [2], [0, 1, 5, 0, 0, 0], [2], [1, 2, 0, 0, 0, 0]])

    def test_the_sum_stays_till_the_next_life_begins(self):
        self.assertEqual(
            after(told(1, 12, 9) + [die(12)], [server(12), start(12), server(12)]),
            [[0, 1, 9, 0, 0, 0], [2], [1, 2, 0, 0, 0, 0]])

    def test_the_lives_are_counted_for_each_server(self):
        self.assertEqual(
            run([die(11), start(11), die(11), start(11), die(14), start(14), server(11), server(12), server(14)]),
            [[0], [2], [0], [3], [0], [2], [1, 3, 0, 0, 0, 0], NEW, [1, 2, 0, 0, 0, 0]])

    def test_death_does_not_count_a_life(self):
        self.assertEqual(run([die(13), server(13)]), [[0], [0, 1, 0, 0, 0, 0]])

    def test_each_server_starts(self):
        for p in (11, 12, 13, 14):
            with self.subTest(p=p):
                self.assertEqual(run([start(p), die(p), start(p), start(p)]), [[-8], [0], [2], [-8]])

    def test_one_that_died_by_its_work_starts(self):
        for what in (3, 4):
            with self.subTest(what=what):
                before = handed_over(1, 11, what, 5) + [work(11)]
                self.assertEqual(after(before, [start(11), server(11)]), [[2], [1, 2, 0, 0, 0, 0]])

    def test_it_sends_nothing(self):
        self.assertEqual(after(busy_and_dead(), [air(), start(11), air()]),
                         [[2, 11, 1, 4, 1, 11, 2, 4, 2], [2], [2, 11, 1, 4, 1, 11, 2, 4, 2]])

    def test_it_may_work_and_die_again(self):
        before = [die(11), start(11)] + handed_over(1, 11, 0, 7)
        self.assertEqual(after(before, [work(11), deliver(11, 1), die(11)]), [[1, 1, 0, 7, 0], [3, 1, 7], [1]])

    def test_the_sum_begins_anew(self):
        before = told(1, 11, 100) + [die(11), start(11)] + handed_over(1, 11, 0, 7) + [work(11)]
        self.assertEqual(after(before, [deliver(11, 1), server(11)]), [[3, 1, 7], [1, 2, 7, 0, 0, 1, 1, 1]])

    def test_what_was_to_be_answered_later_is_still_lost(self):
        self.assertEqual(after(busy_and_dead() + [start(11)], [answer(11, 1), work(11)]), [[-5], [-5]])


class WhatArrivesAfterwards(unittest.TestCase):
    def test_what_was_sent_before_its_death_arrives_at_the_next_life(self):
        before = [ask(1, 11, 0, 5), tell(2, 11, 3), die(11), start(11)]
        self.assertEqual(
            after(before, [deliver(1, 11), deliver(1, 11), deliver(2, 11), server(11), work(11), deliver(11, 1)]),
            [[1, 1], [0, 1, 1, 0, 5, 0], [0, 0, 0, 0, 3, 0],
             [1, 2, 0, 2, 1, 1, 0, 5, 0, 0, 0, 0, 3, 0, 0, 1, 1, 1], [1, 1, 0, 5, 0], [3, 1, 5]])

    def test_what_was_sent_while_it_was_dead_arrives_at_the_next_life(self):
        before = [die(11), ask(1, 11, 0, 5), start(11), deliver(1, 11), deliver(1, 11)]
        self.assertEqual(after(before, [air(), server(11)]), [[0], [1, 2, 0, 1, 1, 1, 0, 5, 0, 0, 1, 1, 1]])

    def test_what_arrived_while_it_was_dead_is_not_found_later(self):
        before = [die(11), ask(1, 11, 0, 5), deliver(1, 11), deliver(1, 11), start(11)]
        self.assertEqual(
            after(before, [server(11), deliver(11, 1), came(1)]),
            [[1, 2, 0, 0, 0, 0], [4, 1], [1, 1, 1, 0]])

    def test_the_watch_at_one_life_and_what_is_asked_at_the_next(self):
        before = [ask(1, 11, 0, 5), deliver(1, 11), die(11), start(11), deliver(1, 11)]
        self.assertEqual(
            after(before, [server(11), work(11), deliver(11, 1), deliver(11, 1), came(1), waits(1), air()]),
            [[1, 2, 0, 1, 1, 1, 0, 5, 0, 0, 0], [1, 1, 0, 5, 0], [4, 1], [3, 1, 5], [1, 1, 1, 0], [0], [0]])

    def test_gone_from_the_life_before_still_arrives(self):
        self.assertEqual(
            after(busy_and_dead() + [start(11)], [deliver(11, 2), came(2), waits(1), deliver(11, 1), came(1)]),
            [[4, 2], [1, 2, 1, 0], [1, 1, 11, 0], [4, 1], [1, 1, 1, 0]])

    def test_an_unwatch_from_the_life_before_ends_no_other_watch(self):
        before = handed_over(1, 11) + [stop(1), die(11), start(11), ask(1, 11)]
        self.assertEqual(
            after(before, [deliver(1, 11), deliver(1, 11), server(11)]),
            [[2, 1], [1, 2], [1, 2, 0, 0, 0, 1, 1, 2]])

    def test_an_answer_from_the_life_before_still_arrives(self):
        before = handed_over(1, 11, 4, 5) + [work(11), start(11)]
        self.assertEqual(
            after(before, [deliver(11, 1), came(1), deliver(11, 1), came(1), deliver(1, 11), server(11)]),
            [[3, 1, 5], [1, 1, 0, 5], [4, 1], [1, 1, 0, 5], [2, 1], [1, 2, 0, 0, 0, 0]])

    def test_what_was_handed_on_to_one_who_lives_again(self):
        before = handed_over(1, 11, 2, 7, 12) + [work(11), die(12), start(12), deliver(11, 12)]
        self.assertEqual(after(before, [server(12), work(12), deliver(12, 1)]),
                         [[1, 2, 0, 1, 1, 1, 0, 7, 0, 0, 0], [1, 1, 0, 7, 0], [3, 1, 7]])


if __name__ == "__main__":
    unittest.main()
