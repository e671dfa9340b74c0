"""What arrives late, at one who doesn't wait, at one who doesn't live."""

import unittest

from tests.lines import after, ask, deliver, die, handed_over, run, stop, tell, work


class AtCallers(unittest.TestCase):
    def test_an_answer_comes_when_the_caller_waits_no_more(self):
        before = handed_over(1, 11, 0, 5) + [work(11), stop(1), deliver(1, 11)]
        self.assertEqual(
            after(before, [deliver(11, 1), deliver(1, 11), stop(1)]),
            [[3, 1, 5], [-5], [-8]])

    def test_an_answer_comes_when_the_caller_waits_for_another_call(self):
        before = handed_over(1, 11, 0, 5) + [work(11), stop(1), deliver(1, 11), ask(1, 11)]
        self.assertEqual(
            after(before, [deliver(11, 1), stop(1)]),
            [[3, 1, 5], [2]])

    def test_the_answer_to_the_next_call_is_taken_behind_a_late_one(self):
        before = handed_over(1, 11, 0, 5) + [work(11), stop(1), deliver(1, 11)]
        before += handed_over(1, 11, 0, 6) + [work(11)]
        self.assertEqual(
            after(before, [deliver(11, 1), deliver(1, 11), deliver(11, 1), deliver(1, 11), stop(1)]),
            [[3, 1, 5], [-5], [3, 2, 11], [2, 2], [-8]])

    def test_gone_comes_when_the_caller_waits_no_more(self):
        before = handed_over(1, 11) + [die(11), stop(1), deliver(1, 11)]
        self.assertEqual(
            after(before, [deliver(11, 1), deliver(1, 11), stop(1)]),
            [[4, 1], [-5], [-8]])

    def test_gone_comes_when_the_caller_waits_for_another_call(self):
        before = handed_over(1, 11) + [die(11), stop(1), ask(1, 12)]
        self.assertEqual(
            after(before, [deliver(11, 1), stop(1), deliver(11, 1)]),
            [[4, 1], [2], [-5]])

    def test_an_answer_that_comes_behind_gone(self):
        before = handed_over(1, 11, 2, 7, 12) + [work(11), deliver(11, 12), work(12), die(11)]
        self.assertEqual(
            after(before, [deliver(11, 1), stop(1), deliver(12, 1), deliver(1, 11), deliver(1, 12)]),
            [[4, 1], [-8], [3, 1, 7], [-5], [-5]])

    def test_another_caller_with_the_same_server_still_waits(self):
        before = handed_over(1, 11) + handed_over(2, 11) + [work(11)]
        self.assertEqual(after(before, [deliver(11, 1), stop(2), stop(1)]), [[3, 1, 0], [2], [-8]])


class AtServersThatDoNotLive(unittest.TestCase):
    def test_watch_is_answered_by_gone_and_what_is_asked_is_lost(self):
        self.assertEqual(
            after([die(13), ask(2, 13, 0, 5)],
                  [deliver(2, 13), deliver(2, 13), work(13), deliver(13, 2), deliver(13, 2), stop(2)]),
            [[1, 1], [0, 2, 1, 0, 5, 0], [-8], [4, 1], [-5], [-8]])

    def test_nobody_who_came_too_late_watches(self):
        self.assertEqual(
            after([ask(2, 13), die(13)], [deliver(2, 13), deliver(13, 2), deliver(13, 2)]),
            [[1, 1], [4, 1], [-5]])

    def test_what_is_told_is_lost(self):
        self.assertEqual(after([tell(2, 13, 5), die(13)], [deliver(2, 13), deliver(13, 2)]),
                         [[0, 0, 0, 0, 5, 0], [-5]])

    def test_what_is_handed_on_is_lost(self):
        before = handed_over(1, 11, 2, 7, 12) + [work(11), die(12)]
        self.assertEqual(
            after(before, [deliver(11, 12), deliver(12, 11), deliver(12, 1), stop(1)]),
            [[0, 1, 1, 0, 7, 0], [-5], [-5], [1]])

    def test_unwatch_does_nothing(self):
        before = handed_over(1, 11) + [stop(1), die(11), deliver(11, 1)]
        self.assertEqual(after(before, [deliver(1, 11), deliver(11, 1)]), [[2, 1], [-5]])


class Unwatching(unittest.TestCase):
    def test_one_who_unwatched_is_not_told(self):
        before = handed_over(1, 11) + handed_over(2, 11) + handed_over(3, 11) + [stop(2)]
        self.assertEqual(
            after(before, [deliver(2, 11), die(11), deliver(11, 2), deliver(11, 1), deliver(11, 3)]),
            [[2, 2], [2], [-5], [4, 1], [4, 3]])

    def test_one_whose_unwatch_is_still_on_its_way_is_told(self):
        before = handed_over(1, 11) + [stop(1)]
        self.assertEqual(after(before, [die(11), deliver(11, 1)]), [[1], [4, 1]])

    def test_it_ends_the_watch_for_this_call_alone(self):
        before = handed_over(1, 11) + [stop(1), deliver(1, 11)] + handed_over(1, 11)
        self.assertEqual(after(before, [die(11), deliver(11, 1), stop(1)]), [[1], [4, 2], [-8]])

    def test_unwatch_goes_to_the_server_that_was_called(self):
        before = handed_over(1, 11, 2, 7, 12) + [work(11), deliver(11, 12), work(12), deliver(12, 1)]
        self.assertEqual(after(before, [deliver(1, 12), deliver(1, 11), die(11)]), [[-5], [2, 1], [0]])


class OrderOnTheWay(unittest.TestCase):
    def test_of_two_between_the_same_what_was_sent_first_arrives_first(self):
        calls = [tell(1, 11, 3), tell(1, 12, 4), tell(2, 11, 5), tell(1, 11, 6)]
        self.assertEqual(
            after(calls, [deliver(2, 11), deliver(1, 11), deliver(1, 12), deliver(1, 11), deliver(1, 11)]),
            [[0, 0, 0, 0, 5, 0], [0, 0, 0, 0, 3, 0], [0, 0, 0, 0, 4, 0], [0, 0, 0, 0, 6, 0], [-5]])

    def test_what_arrived_first_was_asked_first(self):
        calls = [tell(1, 11, 3), tell(2, 11, 5), deliver(2, 11), deliver(1, 11)]
        self.assertEqual(after(calls, [work(11), work(11)]), [[0, 0, 0, 5, 0], [0, 0, 0, 3, 0]])

    def test_a_letter_goes_one_way(self):
        self.assertEqual(run([tell(1, 11), deliver(11, 1), deliver(1, 11)]), [[0], [-5], [0, 0, 0, 0, 0, 0]])


if __name__ == "__main__":
    unittest.main()
