"""Ordinary lines: what each call answers, and the letters that come of it."""

import unittest

from tests.lines import after, answer, ask, deliver, die, handed_over, run, stop, tell, told, work


class Asking(unittest.TestCase):
    def test_watch_then_what_is_asked_then_the_answer(self):
        self.assertEqual(
            run([ask(2, 13, 0, 7), deliver(2, 13), deliver(2, 13), deliver(2, 13),
                 work(13), deliver(13, 2), deliver(13, 2), deliver(2, 13)]),
            [[1], [1, 1], [0, 2, 1, 0, 7, 0], [-5], [2, 1, 0, 7, 0], [3, 1, 7], [-5], [2, 1]])

    def test_calls_are_numbered_over_all_callers(self):
        self.assertEqual(
            run([ask(1, 11), ask(4, 14), ask(2, 12), stop(4), ask(4, 11), ask(3, 11)]),
            [[1], [2], [3], [2], [4], [5]])

    def test_nothing_goes_to_another_one(self):
        self.assertEqual(
            after([ask(1, 11)], [deliver(1, 12), deliver(2, 11), deliver(11, 1), work(11)]),
            [[-5], [-5], [-5], [-5]])

    def test_an_answered_caller_may_ask_again(self):
        before = handed_over(1, 11, 0, 5) + [work(11), deliver(11, 1), deliver(1, 11)]
        self.assertEqual(
            after(before, [stop(1)] + handed_over(1, 11, 0, 6) + [work(11), deliver(11, 1)]),
            [[-8], [2], [1, 2], [0, 1, 2, 0, 6, 0], [1, 2, 0, 6, 0], [3, 2, 11]])

    def test_what_is_asked_does_nothing_before_it_arrives(self):
        self.assertEqual(
            run([ask(1, 11), work(11), deliver(1, 11), work(11), deliver(1, 11), work(11)]),
            [[1], [-5], [1, 1], [-5], [0, 1, 1, 0, 0, 0], [1, 1, 0, 0, 0]])

    def test_an_end_that_is_not_yet_over_leaves_the_caller_waiting(self):
        self.assertEqual(
            run([ask(1, 11, ends=1, ticks=1), stop(1), ask(1, 11, ends=0, ticks=0), stop(1)]),
            [[1], [1], [2], [2]])


class Telling(unittest.TestCase):
    def test_nobody_gets_an_answer(self):
        self.assertEqual(
            run([tell(3, 12, 9), deliver(3, 12), work(12), deliver(12, 3), deliver(12, 0), die(12)]),
            [[0], [0, 0, 0, 0, 9, 0], [0, 0, 0, 9, 0], [-5], [-5], [0]])

    def test_it_adds(self):
        self.assertEqual(
            after(told(3, 12, 9) + handed_over(1, 12, 0, 2) + [work(12)], [deliver(12, 1)]),
            [[3, 1, 11]])

    def test_it_takes_no_call_number(self):
        self.assertEqual(run([tell(1, 11), ask(1, 11)]), [[0], [1]])

    def test_one_who_waits_may_tell(self):
        self.assertEqual(
            run([ask(1, 11), tell(1, 11, 4)] + [deliver(1, 11)] * 3),
            [[1], [0], [1, 1], [0, 1, 1, 0, 0, 0], [0, 0, 0, 0, 4, 0]])


class Stopping(unittest.TestCase):
    def test_the_call_is_given_up_and_unwatch_is_sent(self):
        self.assertEqual(
            run([ask(1, 14), stop(1), stop(1)] + [deliver(1, 14)] * 4 + [die(14)]),
            [[1], [1], [-8], [1, 1], [0, 1, 1, 0, 0, 0], [2, 1], [-5], [0]])

    def test_what_was_asked_is_done_all_the_same(self):
        self.assertEqual(
            after(handed_over(1, 14, 0, 3) + [stop(1)], [work(14), deliver(14, 1), stop(1)]),
            [[1, 1, 0, 3, 0], [3, 1, 3], [-8]])


class KindsOfWhat(unittest.TestCase):
    def test_0_adds_and_answers_with_the_sum(self):
        self.assertEqual(
            after(told(2, 11, 100) + handed_over(1, 11, 0, 11), [work(11), deliver(11, 1), stop(1)]),
            [[1, 1, 0, 11, 0], [3, 1, 111], [-8]])

    def test_1_answers_later_with_the_sum_as_it_was_then(self):
        self.assertEqual(
            after(handed_over(1, 11, 1, 5), [work(11), deliver(11, 1)] + told(2, 11, 100)
                  + [answer(11, 1), answer(11, 1), deliver(11, 1), stop(1)]),
            [[1, 1, 1, 5, 0], [-5], [0], [0, 0, 0, 0, 100, 0], [0, 0, 0, 100, 0],
             [1, 1, 5], [-5], [3, 1, 5], [-8]])

    def test_2_is_done_by_the_other_who_answers(self):
        self.assertEqual(
            after(told(2, 12, 30) + told(2, 11, 500) + handed_over(1, 11, 2, 7, 12),
                  [work(11), deliver(11, 1), deliver(1, 12), deliver(11, 12), work(11), work(12),
                   deliver(11, 1), deliver(12, 1), deliver(1, 12), deliver(1, 11)]),
            [[1, 1, 2, 7, 12], [-5], [-5], [0, 1, 1, 0, 7, 0], [-5], [1, 1, 0, 7, 0],
             [-5], [3, 1, 37], [-5], [2, 1]])

    def test_2_hands_on_whose_call_it_is(self):
        before = [ask(1, 14), ask(2, 14)] + handed_over(4, 13, 2, 1000, 12)
        self.assertEqual(
            after(before, [work(13), deliver(13, 12), work(12), deliver(12, 4), deliver(4, 13)]),
            [[4, 3, 2, 1000, 12], [0, 4, 3, 0, 1000, 0], [4, 3, 0, 1000, 0], [3, 3, 1000], [2, 3]])

    def test_2_adds_nothing_to_the_first_ones_sum(self):
        self.assertEqual(
            after(handed_over(1, 11, 2, 7, 12) + [work(11)] + handed_over(2, 11, 0, 1),
                  [work(11), deliver(11, 2)]),
            [[2, 2, 0, 1, 0], [3, 2, 1]])

    def test_2_with_itself_as_the_other(self):
        self.assertEqual(
            after(handed_over(1, 11, 2, 7, 11),
                  [work(11), work(11), deliver(11, 11), work(11), deliver(11, 1), stop(1)]),
            [[1, 1, 2, 7, 11], [-5], [0, 1, 1, 0, 7, 0], [1, 1, 0, 7, 0], [3, 1, 7], [-8]])

    def test_2_puts_it_behind_what_was_asked_since(self):
        before = handed_over(1, 11, 2, 7, 11) + handed_over(2, 11, 0, 1) + [work(11), deliver(11, 11)]
        self.assertEqual(
            after(before, [work(11), work(11), deliver(11, 2), deliver(11, 1)]),
            [[2, 2, 0, 1, 0], [1, 1, 0, 7, 0], [3, 2, 1], [3, 1, 8]])

    def test_3_dies_without_an_answer(self):
        self.assertEqual(
            after(handed_over(1, 11, 3, 5), [work(11), work(11), deliver(11, 1), deliver(11, 1), stop(1)]),
            [[1, 1, 3, 5, 0], [-8], [4, 1], [-5], [-8]])

    def test_4_answers_and_then_dies(self):
        self.assertEqual(
            after(told(2, 11, 20) + handed_over(1, 11, 4, 5),
                  [work(11), die(11), deliver(11, 1), stop(1), deliver(1, 11), deliver(11, 1), deliver(11, 1)]),
            [[1, 1, 4, 5, 0], [-8], [3, 1, 25], [-8], [2, 1], [4, 1], [-5]])

    def test_what_was_asked_first_is_done_first(self):
        before = handed_over(1, 11, 0, 1) + handed_over(2, 11, 0, 2) + handed_over(3, 11, 0, 4)
        self.assertEqual(
            after(before, [work(11)] * 4 + [deliver(11, 3), deliver(11, 2), deliver(11, 1)]),
            [[1, 1, 0, 1, 0], [2, 2, 0, 2, 0], [3, 3, 0, 4, 0], [-5], [3, 3, 7], [3, 2, 3], [3, 1, 1]])

    def test_each_server_has_a_sum_of_its_own(self):
        before = told(1, 11, 1) + told(1, 12, 10) + told(1, 13, 100) + told(1, 14, 1000)
        for p, total in ((11, 1), (12, 10), (13, 100), (14, 1000)):
            with self.subTest(p=p):
                self.assertEqual(after(before + handed_over(1, p) + [work(p)], [deliver(p, 1)]), [[3, 1, total]])


class AnsweringLater(unittest.TestCase):
    def three_later(self):
        calls = handed_over(1, 12, 1, 1) + handed_over(2, 12, 1, 10) + handed_over(3, 12, 1, 100)
        return calls + [work(12)] * 3

    def test_the_kth_among_several(self):
        self.assertEqual(
            after(self.three_later(), [answer(12, 2), answer(12, 2), answer(12, 2), answer(12, 1), answer(12, 1)]),
            [[2, 2, 11], [3, 3, 111], [-5], [1, 1, 1], [-5]])

    def test_the_answer_is_sent_to_its_caller(self):
        self.assertEqual(
            after(self.three_later(), [answer(12, 3), deliver(12, 1), deliver(12, 2), deliver(12, 3), stop(3), stop(1)]),
            [[3, 3, 111], [-5], [-5], [3, 3, 111], [-8], [1]])

    def test_others_have_none(self):
        self.assertEqual(after(self.three_later(), [answer(11, 1), answer(13, 1)]), [[-5], [-5]])

    def test_one_given_up_is_still_answered(self):
        self.assertEqual(
            after(self.three_later() + [stop(1), deliver(1, 12)], [answer(12, 1), deliver(12, 1), stop(1)]),
            [[1, 1, 1], [3, 1, 1], [-8]])


class Dying(unittest.TestCase):
    def test_gone_is_sent_to_all_who_watch(self):
        before = handed_over(3, 11) + handed_over(1, 11) + [ask(2, 11), ask(4, 12), deliver(4, 12)]
        self.assertEqual(
            after(before, [die(11), die(11), deliver(11, 1), deliver(11, 3), deliver(11, 2), deliver(11, 4),
                           stop(1), stop(3), stop(2), stop(4)]),
            [[2], [-8], [4, 2], [4, 1], [-5], [-5], [-8], [-8], [3], [4]])

    def test_no_unwatch_is_sent_to_one_who_is_gone(self):
        self.assertEqual(
            after(handed_over(1, 11) + [die(11)], [deliver(11, 1), deliver(1, 11)]),
            [[4, 1], [-5]])

    def test_what_it_was_to_answer_later_is_lost(self):
        self.assertEqual(
            after(handed_over(1, 11, 1, 5) + [work(11), die(11)], [answer(11, 1), deliver(11, 1), deliver(11, 1)]),
            [[-5], [4, 1], [-5]])

    def test_the_others_live_on(self):
        self.assertEqual(
            after(handed_over(1, 12) + [die(11)], [work(12), die(12), die(13), die(14)]),
            [[1, 1, 0, 0, 0], [1], [0], [0]])

    def test_who_called_another_one_is_not_told(self):
        before = handed_over(1, 11, 2, 7, 12) + [work(11), deliver(11, 12)]
        self.assertEqual(
            after(before, [die(12), deliver(12, 1), stop(1)]),
            [[0], [-5], [1]])

    def test_what_it_sent_ahead_still_arrives(self):
        before = handed_over(1, 11, 2, 7, 12) + [work(11), die(11), deliver(11, 1)]
        self.assertEqual(
            after(before, [deliver(11, 12), work(12), deliver(12, 1), deliver(1, 11)]),
            [[0, 1, 1, 0, 7, 0], [1, 1, 0, 7, 0], [3, 1, 7], [-5]])


if __name__ == "__main__":
    unittest.main()
