"""What came, waits, server and air tell, and that they change nothing."""

import unittest

from tests.lines import (CALLERS, SERVERS, after, air, all_looks, answer, ask, came, deliver, die, handed_over, run,
                         server, start, stop, tell, ticks, told, turns, waits, work)


class Came(unittest.TestCase):
    def test_nothing_at_first(self):
        self.assertEqual(run([came(c) for c in CALLERS]), [[0]] * 4)

    def test_all_four_ways_in_order(self):
        calls = handed_over(1, 11, 0, 5) + [work(11), deliver(11, 1)]
        calls += handed_over(1, 12) + [die(12), deliver(12, 1)]
        calls += [ask(1, 13, 0, 6, ends=1, ticks=4), ticks(4), ask(1, 14, 0, 7), stop(1)]
        self.assertEqual(after(calls, [came(1)]), [[4, 1, 0, 5, 2, 1, 0, 3, 2, 0, 4, 3, 0]])

    def test_all_four_ways_in_another_order(self):
        calls = [ask(2, 14, 0, 7), stop(2), ask(2, 13, 0, 6, ends=1, ticks=0)]
        calls += [die(12)] + handed_over(2, 12, 0, 9) + [deliver(12, 2)]
        calls += told(1, 11, 995) + handed_over(2, 11, 0, 5) + [work(11), deliver(11, 2)]
        self.assertEqual(after(calls, [came(2)]), [[4, 1, 3, 0, 2, 2, 0, 3, 1, 0, 4, 0, 1000]])

    def test_each_caller_has_its_own(self):
        calls = [ask(3, 11), stop(3), ask(1, 12), ask(3, 11, ends=1), stop(1)]
        self.assertEqual(after(calls, [came(c) for c in CALLERS]), [[1, 2, 3, 0], [0], [2, 1, 3, 0, 3, 2, 0], [0]])

    def test_an_answer_of_0(self):
        calls = handed_over(1, 11, 0, 0) + [work(11), deliver(11, 1)]
        self.assertEqual(after(calls, [came(1)]), [[1, 1, 0, 0]])

    def test_the_call_that_is_waited_for_is_not_told(self):
        self.assertEqual(run([ask(1, 11), came(1)]), [[1], [0]])

    def test_an_answer_comes_of_its_own_call_alone(self):
        calls = handed_over(1, 11, 1, 5) + handed_over(2, 11, 1, 6) + [work(11), work(11), stop(1), ask(1, 12)]
        calls += [answer(11, 1), answer(11, 1), deliver(11, 1), deliver(11, 2)]
        self.assertEqual(
            after(calls, [came(1), waits(1), came(2), waits(2)]),
            [[1, 1, 3, 0], [1, 3, 12, 0], [1, 2, 0, 11], [0]])

    def test_as_many_as_there_are_calls(self):
        answered = after([ask(4, 11, ends=1)] * 49, [came(4)])[0]
        self.assertEqual(answered, [49] + [number for k in range(1, 50) for number in (k, 2, 0)])


class Waits(unittest.TestCase):
    def test_nobody_waits_at_first(self):
        self.assertEqual(run([waits(c) for c in CALLERS]), [[0]] * 4)

    def test_without_an_end(self):
        self.assertEqual(run([ask(3, 14), waits(3), waits(1)]), [[1], [1, 1, 14, 0], [0]])

    def test_without_an_end_ticks_are_not_told(self):
        self.assertEqual(run([ask(3, 14, ends=0, ticks=9), waits(3)]), [[1], [1, 1, 14, 0]])

    def test_with_a_time(self):
        self.assertEqual(
            run([ticks(30), ask(1, 12), ask(2, 13, ends=1, ticks=12), waits(2), ticks(11), waits(2)]),
            [[30], [1], [2], [1, 2, 13, 1, 42], [41], [1, 2, 13, 1, 42]])

    def test_the_server_that_was_called_though_another_does_it(self):
        calls = handed_over(1, 11, 2, 7, 12) + [work(11), deliver(11, 12)]
        self.assertEqual(after(calls, [waits(1)]), [[1, 1, 11, 0]])

    def test_no_more_whatever_came_of_it(self):
        self.assertEqual(after([ask(1, 11), stop(1)], [waits(1)]), [[0]])
        self.assertEqual(after([ask(1, 11, ends=1, ticks=1), ticks(1)], [waits(1)]), [[0]])
        self.assertEqual(after([ask(1, 11), turns(3)], [waits(1)]), [[0]])
        self.assertEqual(after([die(11), ask(1, 11), turns(3)], [waits(1)]), [[0]])

    def test_one_waits_till_gone_arrives(self):
        calls = handed_over(1, 11) + [die(11), start(11)]
        self.assertEqual(after(calls, [waits(1), deliver(11, 1), waits(1)]), [[1, 1, 11, 0], [4, 1], [0]])


class ServerTold(unittest.TestCase):
    def test_a_new_one(self):
        self.assertEqual(run([server(p) for p in SERVERS]), [[1, 1, 0, 0, 0, 0]] * 4)

    def test_several_of_each(self):
        calls = handed_over(3, 12, 1, 10) + handed_over(1, 12, 1, 20) + [work(12), work(12)]
        calls += handed_over(4, 12, 2, 30, 14) + [tell(2, 12, 40), deliver(2, 12)] + handed_over(2, 12, 4, 50)
        self.assertEqual(
            after(calls, [server(12), server(11)]),
            [[1, 1, 30,
              3, 4, 3, 2, 30, 14, 0, 0, 0, 40, 0, 2, 4, 4, 50, 0,
              2, 3, 1, 10, 1, 2, 30,
              4, 3, 1, 1, 2, 4, 3, 2, 4],
             [1, 1, 0, 0, 0, 0]])

    def test_one_caller_watches_for_two_calls(self):
        calls = handed_over(1, 11) + [stop(1), ask(1, 11)]
        self.assertEqual(
            after(calls, [server(11), deliver(1, 11), deliver(1, 11), server(11)]),
            [[1, 1, 0, 1, 1, 1, 0, 0, 0, 0, 1, 1, 1], [2, 1], [1, 2],
             [1, 1, 0, 1, 1, 1, 0, 0, 0, 0, 1, 1, 2]])

    def test_the_watchers_that_are_left_keep_their_order(self):
        calls = handed_over(3, 11, 1) + handed_over(1, 11, 1) + handed_over(2, 11, 1) + [work(11)] * 3
        calls += [stop(1), deliver(1, 11), answer(11, 2)]
        self.assertEqual(after(calls, [server(11)]), [[1, 1, 0, 0, 2, 3, 1, 0, 2, 3, 0, 2, 3, 1, 2, 3]])

    def test_a_dead_one(self):
        calls = told(1, 13, 8) + handed_over(1, 13, 1, 1) + [work(13)] + handed_over(2, 13) + [die(13)]
        self.assertEqual(after(calls, [server(13)]), [[0, 1, 9, 0, 0, 0]])


class AirTold(unittest.TestCase):
    def test_nothing_at_first(self):
        self.assertEqual(run([air()]), [[0]])

    def test_all_five_kinds_in_the_order_of_sending(self):
        calls = handed_over(2, 12, 1, 3) + [work(12)] + handed_over(4, 13)
        calls += [ask(1, 11, 2, 5, 14), die(13), answer(12, 1), stop(1), tell(3, 12, 1000)]
        self.assertEqual(
            after(calls, [air()]),
            [[6,
              1, 11, 1, 3,
              1, 11, 0, 1, 3, 2, 5, 14,
              13, 4, 4, 2,
              12, 2, 3, 1, 3,
              1, 11, 2, 3,
              3, 12, 0, 0, 0, 0, 1000, 0]])

    def test_from_one_server_to_another_and_to_itself(self):
        calls = handed_over(1, 11, 2, 5, 12) + handed_over(2, 11, 2, 6, 11) + [work(11), work(11)]
        self.assertEqual(after(calls, [air()]), [[2, 11, 12, 0, 1, 1, 0, 5, 0, 11, 11, 0, 2, 2, 0, 6, 0]])

    def test_those_behind_one_that_arrived_keep_their_order(self):
        calls = [tell(1, 11, 1), tell(2, 12, 2), tell(3, 13, 3), deliver(2, 12), tell(2, 12, 4)]
        self.assertEqual(
            after(calls, [air()]),
            [[3, 1, 11, 0, 0, 0, 0, 1, 0, 3, 13, 0, 0, 0, 0, 3, 0, 2, 12, 0, 0, 0, 0, 4, 0]])


class NothingIsChanged(unittest.TestCase):
    def test_a_second_look_tells_what_the_first_did(self):
        calls = handed_over(3, 12, 1, 10) + [work(12)] + handed_over(4, 12, 2, 30, 14)
        calls += [ask(1, 11, ends=1, ticks=3), stop(1), die(13), ask(1, 13, ends=1, ticks=9), deliver(1, 13)]
        first = after(calls, all_looks())
        self.assertEqual(after(calls, all_looks() * 2), first * 2)

    def test_what_is_done_behind_a_look_is_as_without_it(self):
        calls = handed_over(3, 12, 1, 10) + handed_over(4, 12, 2, 30, 14) + [ask(1, 11, ends=1, ticks=3)]
        behind = [work(12), answer(12, 1), ticks(3), turns(3), die(12), turns(500), ask(1, 12)] + all_looks()
        looks = all_looks()
        self.assertEqual(after(calls + looks, behind), after(calls, behind))


if __name__ == "__main__":
    unittest.main()
