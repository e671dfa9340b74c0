"""The time, and the callers whose time is over."""

import unittest

from tests.lines import MOST, after, air, ask, came, deliver, die, handed_over, run, server, stop, ticks, turns, waits, work


class TheTime(unittest.TestCase):
    def test_it_is_the_time_then(self):
        self.assertEqual(run([ticks(1), ticks(1), ticks(40), ticks(10000)]), [[1], [2], [42], [10042]])

    def test_from_1_to_10000(self):
        for n, answered in ((0, -1), (1, 1), (2, 2), (9999, 9999), (10000, 10000), (10001, -1), (MOST, -1)):
            with self.subTest(n=n):
                self.assertEqual(run([ticks(n)]), [[answered]])

    def test_a_refusal_passes_no_time(self):
        self.assertEqual(run([ticks(5), ticks(0), ticks(10001), ticks(MOST), ticks(1)]), [[5], [-1], [-1], [-1], [6]])

    def test_a_hundred_times_the_most(self):
        self.assertEqual(run([ticks(10000)] * 100)[99], [1000000])

    def test_no_letter_arrives_by_it_and_no_work_is_done(self):
        before = handed_over(1, 11, 0, 5) + [ask(2, 12)]
        looks = [air(), server(11), server(12), came(1), came(2), waits(1), waits(2)]
        self.assertEqual(after(before, [ticks(10000)] + looks)[1:], after(before, looks))


class Over(unittest.TestCase):
    def test_one_tick_before_just_at_the_time_and_behind_it(self):
        for n, over in ((1, False), (6, False), (7, True), (8, True), (10000, True)):
            with self.subTest(n=n):
                expected = [[1, 1, 2, 0], [0]] if over else [[0], [1, 1, 11, 1, 7]]
                self.assertEqual(after([ask(1, 11, ends=1, ticks=7), ticks(n)], [came(1), waits(1)]), expected)

    def test_in_several_steps(self):
        self.assertEqual(
            run([ask(1, 11, ends=1, ticks=7), ticks(3), ticks(3), waits(1), ticks(1), waits(1), came(1)]),
            [[1], [3], [6], [1, 1, 11, 1, 7], [7], [0], [1, 1, 2, 0]])

    def test_the_end_is_counted_from_the_asking(self):
        self.assertEqual(
            run([ticks(100), ask(1, 11, ends=1, ticks=7), waits(1), ticks(6), waits(1), ticks(1), waits(1), came(1)]),
            [[100], [1], [1, 1, 11, 1, 107], [106], [1, 1, 11, 1, 107], [107], [0], [1, 1, 2, 0]])

    def test_the_longest_end(self):
        self.assertEqual(
            run([ask(1, 11, ends=1, ticks=10000), ticks(9999), came(1), ticks(1), came(1)]),
            [[1], [9999], [0], [10000], [1, 1, 2, 0]])

    def test_the_shortest_end(self):
        self.assertEqual(run([ask(1, 11, ends=1, ticks=1), came(1), ticks(1), came(1)]), [[1], [0], [1], [1, 1, 2, 0]])

    def test_over_at_once_comes_before_any_tick_and_once(self):
        self.assertEqual(
            run([ticks(5), ask(1, 11, ends=1, ticks=0), came(1), waits(1), ticks(1), came(1), air()]),
            [[5], [1], [1, 1, 2, 0], [0], [6], [1, 1, 2, 0],
             [3, 1, 11, 1, 1, 1, 11, 0, 1, 1, 0, 0, 0, 1, 11, 2, 1]])

    def test_unwatch_is_sent_behind_what_is_on_its_way(self):
        self.assertEqual(
            run([ask(1, 11, 0, 5, ends=1, ticks=2), ticks(2), air()]),
            [[1], [2], [3, 1, 11, 1, 1, 1, 11, 0, 1, 1, 0, 5, 0, 1, 11, 2, 1]])

    def test_by_number_of_the_callers_whatever_was_over_first(self):
        before = handed_over(4, 11) + [stop(4), deliver(4, 11)]
        for c, p, n in ((4, 12, 1), (2, 11, 9), (3, 13, 5), (1, 14, 9)):
            before += [ask(c, p, ends=1, ticks=n), deliver(c, p), deliver(c, p)]
        self.assertEqual(
            after(before, [ticks(9), air(), came(1), came(2), came(3), came(4)]),
            [[9], [4, 1, 14, 2, 5, 2, 11, 2, 3, 3, 13, 2, 4, 4, 12, 2, 2],
             [1, 5, 2, 0], [1, 3, 2, 0], [1, 4, 2, 0], [2, 1, 3, 0, 2, 2, 0]])

    def test_only_those_whose_time_is_over(self):
        before = []
        for c, ends, n in ((1, 1, 4), (2, 0, 4), (3, 1, 5), (4, 1, 6)):
            before += [ask(c, 11, ends=ends, ticks=n), deliver(c, 11), deliver(c, 11)]
        self.assertEqual(
            after(before, [ticks(5), waits(1), waits(2), waits(3), waits(4), air()]),
            [[5], [0], [1, 2, 11, 0], [0], [1, 4, 11, 1, 6], [2, 1, 11, 2, 1, 3, 11, 2, 3]])

    def test_without_an_end_one_waits_on(self):
        for n in (0, 1, 10000):
            with self.subTest(ticks=n):
                self.assertEqual(
                    after([ask(1, 11, ends=0, ticks=n)] + [ticks(10000)] * 20, [waits(1), came(1)]),
                    [[1, 1, 11, 0], [0]])

    def test_one_who_was_answered_in_time(self):
        before = [ask(1, 11, 0, 5, ends=1, ticks=3), turns(3)]
        self.assertEqual(after(before, [came(1), ticks(3), came(1), waits(1)]), [[1, 1, 0, 5], [3], [1, 1, 0, 5], [0]])

    def test_the_end_of_a_call_is_not_the_end_of_the_next_one(self):
        before = [ask(1, 11, ends=1, ticks=3), stop(1), ask(1, 12, ends=1, ticks=5), ticks(3)]
        self.assertEqual(
            after(before, [came(1), waits(1), ticks(2), came(1), waits(1)]),
            [[1, 1, 3, 0], [1, 2, 12, 1, 5], [5], [2, 1, 3, 0, 2, 2, 0], [0]])

    def test_the_end_of_a_call_is_not_the_end_of_one_without_an_end(self):
        before = [ask(1, 11, ends=1, ticks=3), stop(1), ask(1, 12), ticks(3)]
        self.assertEqual(after(before, [came(1), waits(1)]), [[1, 1, 3, 0], [1, 2, 12, 0]])

    def test_an_answer_that_comes_too_late(self):
        before = [ask(1, 11, 0, 5, ends=1, ticks=3), deliver(1, 11), deliver(1, 11), work(11), ticks(3)]
        self.assertEqual(
            after(before, [deliver(11, 1), came(1), ask(1, 11), deliver(1, 11), server(11)]),
            [[3, 1, 5], [1, 1, 2, 0], [2], [2, 1], [1, 1, 5, 0, 0, 0]])

    def test_gone_that_comes_too_late(self):
        before = [ask(1, 11, ends=1, ticks=3), deliver(1, 11), die(11), ticks(3)]
        self.assertEqual(after(before, [deliver(11, 1), came(1), air()]),
                         [[4, 1], [1, 1, 2, 0], [2, 1, 11, 0, 1, 1, 0, 0, 0, 1, 11, 2, 1]])

    def test_it_sends_however_many_letters_there_are(self):
        before = [ask(2, 12, ends=1, ticks=1)] + [ask(1, 11, ends=1)] * 50
        self.assertEqual(after(before, [ask(3, 11), ticks(1), came(2), turns(0)]), [[-6], [1], [1, 1, 2, 0], [153]])


if __name__ == "__main__":
    unittest.main()
