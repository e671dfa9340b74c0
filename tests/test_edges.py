"""The edges that the document names, and the numbers beside them."""

import unittest

from tests.lines import (MOST, after, air, answer, ask, came, deliver, die, handed_over, letters_149, run, server, start,
                         stop, tell, ticks, told, turns, waits, work)

NO_CALLERS = (0, 5, 10, 11, 14, MOST)
NO_SERVERS = (0, 1, 4, 10, 15, MOST)


class WhoThereIs(unittest.TestCase):
    def test_callers_1_to_4(self):
        for c in (1, 2, 3, 4):
            with self.subTest(c=c):
                self.assertEqual(
                    run([came(c), waits(c), tell(c, 11), ask(c, 11), waits(c), stop(c), came(c)]),
                    [[0], [0], [0], [1], [1, 1, 11, 0], [1], [1, 1, 3, 0]])

    def test_no_other_callers(self):
        for c in NO_CALLERS:
            with self.subTest(c=c):
                self.assertEqual(run([tell(c, 11), ask(c, 11), stop(c), came(c), waits(c)]), [[-1]] * 5)

    def test_servers_11_to_14(self):
        for p in (11, 12, 13, 14):
            with self.subTest(p=p):
                self.assertEqual(
                    run([server(p), start(p), tell(1, p), ask(1, p), work(p), answer(p, 1), die(p), start(p), server(p)]),
                    [[1, 1, 0, 0, 0, 0], [-8], [0], [1], [-5], [-5], [0], [2], [1, 2, 0, 0, 0, 0]])

    def test_no_other_servers(self):
        for p in NO_SERVERS:
            with self.subTest(p=p):
                self.assertEqual(
                    run([tell(1, p), ask(1, p), work(p), answer(p, 1), die(p), start(p), server(p)]),
                    [[-1]] * 7)


class WhatIsAsked(unittest.TestCase):
    def test_what_up_to_4(self):
        for what, answered in ((0, 1), (1, 1), (3, 1), (4, 1), (5, -1), (MOST, -1)):
            with self.subTest(what=what):
                self.assertEqual(run([ask(1, 11, what)]), [[answered]])

    def test_how_much_up_to_1000(self):
        for much, asked, told_it in ((0, 1, 0), (999, 1, 0), (1000, 1, 0), (1001, -1, -1), (MOST, -1, -1)):
            with self.subTest(much=much):
                self.assertEqual(run([ask(1, 11, 0, much), tell(1, 11, much)]), [[asked], [told_it]])

    def test_the_most_that_is_asked_is_added(self):
        self.assertEqual(after(handed_over(1, 11, 0, 1000) + [work(11)], [deliver(11, 1)]), [[3, 1, 1000]])

    def test_the_other_is_a_server_where_what_is_2(self):
        for other in (11, 12, 13, 14):
            with self.subTest(other=other):
                self.assertEqual(run([ask(1, 11, 2, 0, other)]), [[1]])
        for other in NO_SERVERS:
            with self.subTest(other=other):
                self.assertEqual(run([ask(1, 11, 2, 0, other)]), [[-1]])

    def test_the_other_is_0_where_what_is_not_2(self):
        for what in (0, 1, 3, 4):
            for other in (1, 10, 11, 12, 14, 15, MOST):
                with self.subTest(what=what, other=other):
                    self.assertEqual(run([ask(1, 11, what, 0, other)]), [[-1]])

    def test_the_other_needs_not_live(self):
        self.assertEqual(run([die(12), ask(1, 11, 2, 0, 12)]), [[0], [1]])

    def test_the_one_who_is_called_needs_not_live(self):
        self.assertEqual(run([die(11), ask(1, 11), tell(1, 11)]), [[0], [1], [0]])


class Ends(unittest.TestCase):
    def test_ends_0_or_1(self):
        for ends, answered in ((0, 1), (1, 1), (2, -2), (MOST, -2)):
            with self.subTest(ends=ends):
                self.assertEqual(run([ask(1, 11, ends=ends, ticks=5)]), [[answered]])

    def test_ticks_up_to_10000_with_and_without_an_end(self):
        for ends in (0, 1):
            for ticks, answered in ((1, 1), (9999, 1), (10000, 1), (10001, -2), (MOST, -2)):
                with self.subTest(ends=ends, ticks=ticks):
                    self.assertEqual(run([ask(1, 11, ends=ends, ticks=ticks)]), [[answered]])

    def test_ends_1_with_ticks_0_is_over_at_once(self):
        self.assertEqual(
            run([ask(1, 11, 0, 5, ends=1, ticks=0), stop(1)] + [deliver(1, 11)] * 4
                + [work(11), deliver(11, 1), stop(1), die(11)]),
            [[1], [-8], [1, 1], [0, 1, 1, 0, 5, 0], [2, 1], [-5], [1, 1, 0, 5, 0], [3, 1, 5], [-8], [0]])

    def test_one_whose_time_was_over_at_once_may_ask_again(self):
        self.assertEqual(run([ask(1, 11, ends=1), ask(1, 11, ends=1), ask(1, 12), stop(1)]), [[1], [2], [3], [3]])


class LettersOnTheirWay(unittest.TestCase):
    def test_149_are_not_too_many_for_ask(self):
        self.assertEqual(
            after(letters_149(), [ask(3, 13), ask(4, 13), tell(4, 13)]),
            [[50], [-6], [-6]])

    def test_149_are_not_too_many_for_tell(self):
        self.assertEqual(
            after(letters_149(), [tell(3, 13), tell(3, 13), ask(3, 13)]),
            [[0], [-6], [-6]])

    def test_one_that_arrives_makes_room(self):
        self.assertEqual(
            after(letters_149() + [tell(3, 13)], [deliver(3, 13), tell(3, 13), tell(3, 13)]),
            [[0, 0, 0, 0, 0, 0], [0], [-6]])

    def test_the_rest_sends_however_many_there_are(self):
        before = handed_over(3, 13) + handed_over(4, 14, 1, 5) + [work(14)] + letters_149() + [tell(2, 12)]
        self.assertEqual(
            after(before, [tell(2, 12), work(13), answer(14, 1), stop(3), die(14),
                           deliver(13, 3), deliver(14, 4), deliver(14, 4), deliver(3, 13)]),
            [[-6], [3, 1, 0, 0, 0], [4, 2, 5], [1], [1], [3, 1, 0], [3, 2, 5], [4, 2], [2, 1]])


class AnswerK(unittest.TestCase):
    def test_k_from_the_first_to_the_last(self):
        before = handed_over(1, 11, 1, 1) + handed_over(2, 11, 1, 2) + handed_over(3, 11, 1, 4) + [work(11)] * 3
        for k, answered in ((0, [-5]), (1, [1, 1, 1]), (2, [2, 2, 3]), (3, [3, 3, 7]), (4, [-5]), (MOST, [-5])):
            with self.subTest(k=k):
                self.assertEqual(after(before, [answer(11, k)]), [answered])

    def test_nothing_is_to_be_answered_for_nobody(self):
        self.assertEqual(after(told(1, 11, 5), [answer(11, 0), answer(11, 1)]), [[-5], [-5]])


class LargestNumbers(unittest.TestCase):
    def test_each_call_takes_them(self):
        self.assertEqual(
            run([ask(MOST, MOST, MOST, MOST, MOST, MOST, MOST), tell(MOST, MOST, MOST), stop(MOST),
                 deliver(MOST, MOST), work(MOST), answer(MOST, MOST), die(MOST), start(MOST), ticks(MOST),
                 turns(MOST), came(MOST), waits(MOST), server(MOST), air()]),
            [[-1], [-1], [-1], [-5]] + [[-1]] * 9 + [[0]])

    def test_each_call_takes_zeros(self):
        self.assertEqual(
            run([[0] * 8, [1, 0, 0, 0], [2, 0], [3, 0, 0], [4, 0], [5, 0, 0], [6, 0], [7, 0], [8, 0], [9, 0],
                 [10, 0], [11, 0], [12, 0], [13]]),
            [[-1], [-1], [-1], [-5]] + [[-1]] * 5 + [[0]] + [[-1]] * 3 + [[0]])


if __name__ == "__main__":
    unittest.main()
