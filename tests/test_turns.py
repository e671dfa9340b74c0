"""Rounds: the letter that was sent first arrives, then each server does the first that it was asked."""

import unittest

from tests.lines import (MOST, after, air, ask, came, deliver, die, handed_over, letters_149, run, server, start, stop,
                         tell, ticks, turns, waits, work)


class OneRound(unittest.TestCase):
    def test_a_call_from_the_watch_to_the_unwatch(self):
        self.assertEqual(
            run([ask(1, 11, 0, 5), turns(1), server(11), air(), turns(1), server(11), air(),
                 turns(1), came(1), air(), turns(1), server(11), air()]),
            [[1],
             [1], [1, 1, 0, 0, 0, 1, 1, 1], [1, 1, 11, 0, 1, 1, 0, 5, 0],
             [1], [1, 1, 5, 0, 0, 1, 1, 1], [1, 11, 1, 3, 1, 5],
             [1], [1, 1, 0, 5], [1, 1, 11, 2, 1],
             [0], [1, 1, 5, 0, 0, 0], [0]])

    def test_the_letter_that_was_sent_first_over_all(self):
        calls = [tell(3, 13, 3), tell(1, 11, 1), tell(2, 14, 2)]
        self.assertEqual(
            after(calls, [turns(1), server(13), server(11), air()]),
            [[2], [1, 1, 3, 0, 0, 0], [1, 1, 0, 0, 0, 0], [2, 1, 11, 0, 0, 0, 0, 1, 0, 2, 14, 0, 0, 0, 0, 2, 0]])

    def test_what_it_was_asked_by_the_letter_of_this_very_round(self):
        self.assertEqual(run([tell(1, 14, 9), turns(1), server(14)]), [[0], [0], [1, 1, 9, 0, 0, 0]])

    def test_what_was_asked_before_is_done_ahead_of_the_letter_of_this_round(self):
        before = [tell(1, 11, 3), deliver(1, 11), tell(1, 11, 4)]
        self.assertEqual(
            after(before, [turns(1), server(11), turns(1), server(11)]),
            [[0], [1, 1, 3, 1, 0, 0, 0, 4, 0, 0, 0], [0], [1, 1, 7, 0, 0, 0]])

    def test_each_server_does_one_thing(self):
        before = []
        for p in (14, 12, 11, 13):
            before += [tell(1, p, p), deliver(1, p)] * 2
        self.assertEqual(
            after(before, [turns(1)] + [server(p) for p in (11, 12, 13, 14)]),
            [[0]] + [[1, 1, p, 1, 0, 0, 0, p, 0, 0, 0] for p in (11, 12, 13, 14)])

    def test_the_servers_work_in_order(self):
        before = handed_over(1, 14, 0, 1) + handed_over(2, 13, 0, 2) + handed_over(3, 12, 0, 3) + handed_over(4, 11, 0, 4)
        self.assertEqual(
            after(before, [turns(1), air()]),
            [[4], [4, 11, 4, 3, 4, 4, 12, 3, 3, 3, 3, 13, 2, 3, 2, 2, 14, 1, 3, 1, 1]])

    def test_with_nothing_on_its_way_the_servers_work_all_the_same(self):
        before = [tell(1, 12, 6), deliver(1, 12)]
        self.assertEqual(after(before, [air(), turns(1), server(12)]), [[0], [0], [1, 1, 6, 0, 0, 0]])

    def test_with_nothing_asked_the_letter_arrives_all_the_same(self):
        before = handed_over(1, 11, 0, 5) + [work(11)]
        self.assertEqual(after(before, [turns(1), came(1), air()]), [[1], [1, 1, 0, 5], [1, 1, 11, 2, 1]])

    def test_with_nothing_at_all(self):
        self.assertEqual(run([turns(1), turns(500)] + [server(11), air(), came(1)]),
                         [[0], [0], [1, 1, 0, 0, 0, 0], [0], [0]])

    def test_what_is_handed_on_arrives_in_another_round(self):
        before = handed_over(1, 11, 2, 7, 12)
        self.assertEqual(
            after(before, [turns(1), server(12), air(), turns(1), server(12), air()]),
            [[1], [1, 1, 0, 0, 0, 0], [1, 11, 12, 0, 1, 1, 0, 7, 0], [1], [1, 1, 7, 0, 0, 0], [1, 12, 1, 3, 1, 7]])

    def test_what_is_to_be_answered_later_is_not_answered_by_it(self):
        before = handed_over(1, 11, 1, 5)
        self.assertEqual(
            after(before, [turns(500), server(11), waits(1)]),
            [[0], [1, 1, 5, 0, 1, 1, 1, 5, 1, 1, 1], [1, 1, 11, 0]])

    def test_no_time_passes_by_it(self):
        self.assertEqual(
            run([ask(1, 11, 1, ends=1, ticks=2), turns(500), waits(1), ticks(1), waits(1), ticks(1), came(1)]),
            [[1], [0], [1, 1, 11, 1, 2], [1], [1, 1, 11, 1, 2], [2], [1, 1, 2, 0]])


class DeathInARound(unittest.TestCase):
    def test_gone_is_sent_and_what_it_was_asked_is_lost(self):
        before = handed_over(1, 11, 3) + handed_over(2, 11, 0, 5) + [tell(3, 11, 6)]
        self.assertEqual(
            after(before, [turns(1), server(11), air(), turns(2), came(1), came(2), air()]),
            [[2], [0, 1, 0, 0, 0, 0], [2, 11, 1, 4, 1, 11, 2, 4, 2], [0], [1, 1, 1, 0], [1, 2, 1, 0], [0]])

    def test_it_adds_answers_and_dies(self):
        self.assertEqual(
            run([ask(1, 11, 4, 5), turns(2), server(11), air(), turns(1), came(1), air(), turns(2), came(1)]),
            [[1], [2], [0, 1, 5, 0, 0, 0], [2, 11, 1, 3, 1, 5, 11, 1, 4, 1],
             [2], [1, 1, 0, 5], [2, 11, 1, 4, 1, 1, 11, 2, 1], [0], [1, 1, 0, 5]])

    def test_those_behind_it_work_in_the_same_round(self):
        before = handed_over(1, 11, 3) + handed_over(2, 12, 0, 5)
        self.assertEqual(after(before, [turns(1), air()]), [[2], [2, 11, 1, 4, 1, 12, 2, 3, 2, 5]])

    def test_one_that_does_not_live_does_nothing_in_a_round(self):
        self.assertEqual(
            run([die(11), ask(1, 11, 0, 5), turns(1), air(), turns(1), server(11), turns(1), came(1), air()]),
            [[0], [1], [2], [2, 1, 11, 0, 1, 1, 0, 5, 0, 11, 1, 4, 1], [1], [0, 1, 0, 0, 0, 0], [0], [1, 1, 1, 0], [0]])

    def test_one_that_lives_again_works_on_in_rounds(self):
        before = [ask(1, 11, 3), turns(2), start(11), tell(2, 11, 8)]
        self.assertEqual(after(before, [turns(2), server(11), came(1)]), [[0], [1, 2, 8, 0, 0, 0], [1, 1, 1, 0]])


class HowMany(unittest.TestCase):
    def test_up_to_500(self):
        for n, answered in ((0, 1), (1, 0), (499, 0), (500, 0), (501, -1), (MOST, -1)):
            with self.subTest(n=n):
                self.assertEqual(run([tell(1, 11), turns(n)]), [[0], [answered]])

    def test_no_round_changes_nothing(self):
        before = handed_over(1, 11, 0, 5) + [ask(2, 12)]
        looks = [air(), server(11), server(12), came(1), waits(1), waits(2)]
        self.assertEqual(after(before, [turns(0)] + looks), [[2]] + after(before, looks))

    def test_so_many_rounds_as_told(self):
        for n in range(21):
            with self.subTest(n=n):
                self.assertEqual(
                    after([tell(1, 11, 1)] * 20, [turns(n), server(11)]),
                    [[20 - n], [1, 1, n, 0, 0, 0]])

    def test_several_rounds_are_as_one_by_one(self):
        before = [ask(1, 11, 2, 5, 12), ask(2, 12, 1, 6), ask(3, 11, 4, 7), ask(4, 14, 3), tell(1, 12, 8), stop(2)]
        looks = [air(), server(11), server(12), server(14)] + [came(c) for c in (1, 2, 3, 4)]
        for n in range(20):
            with self.subTest(n=n):
                self.assertEqual(after(before, [turns(n)] + looks)[1:], after(before, [turns(1)] * n + looks)[n:])

    def test_500_empty_a_full_air(self):
        before = letters_149() + [ask(3, 13)]
        self.assertEqual(after(before, [air(), ask(4, 11)])[1], [-6])
        answered = after(before, [turns(500), air(), server(11), server(12), server(13), came(3), ask(4, 11)])
        self.assertEqual(
            answered,
            [[0], [0], [1, 1, 0, 0, 0, 0], [1, 1, 0, 0, 0, 0], [1, 1, 0, 0, 0, 0], [1, 50, 0, 0], [51]])


if __name__ == "__main__":
    unittest.main()
