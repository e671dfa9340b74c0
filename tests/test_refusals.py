"""Every refusal, the order among several, and that all is as it was after each."""

import unittest

from answeredonce.state import World
from answeredonce.world import answer_to
from tests.lines import (MOST, after, all_looks, answer, ask, came, deliver, die, handed_over, letters_149, run, server,
                         start, stop, tell, ticks, turns, waits, work)
from tests.snapshots import snapshot

FULL = letters_149() + [tell(2, 12)]


class OrderAmongSeveral(unittest.TestCase):
    def refused(self, before, call, number):
        with self.subTest(call=call):
            self.assertEqual(after(before, [call]), [[number]])

    def test_ask_each_alone(self):
        self.refused([], ask(5, 11), -1)
        self.refused([], ask(1, 15), -1)
        self.refused([], ask(1, 11, 5), -1)
        self.refused([], ask(1, 11, 0, 1001), -1)
        self.refused([], ask(1, 11, 2, 0, 0), -1)
        self.refused([], ask(1, 11, 0, 0, 11), -1)
        self.refused([], ask(1, 11, ends=2), -2)
        self.refused([], ask(1, 11, ticks=10001), -2)
        self.refused([ask(1, 11)], ask(1, 12), -8)
        self.refused(FULL, ask(1, 11), -6)

    def test_ask_there_is_no_such_before_a_bad_end(self):
        bad = {"ends": 2, "ticks": 10001}
        self.refused([], ask(5, 11, **bad), -1)
        self.refused([], ask(1, 15, **bad), -1)
        self.refused([], ask(1, 11, 5, **bad), -1)
        self.refused([], ask(1, 11, 0, 1001, **bad), -1)
        self.refused([], ask(1, 11, 2, 0, 10, **bad), -1)
        self.refused([], ask(1, 11, 0, 0, 11, **bad), -1)

    def test_ask_before_the_caller_waits(self):
        self.refused([ask(1, 11)], ask(1, 15), -1)
        self.refused([ask(1, 11)], ask(1, 11, 5), -1)
        self.refused([ask(1, 11)], ask(1, 11, ends=2), -2)
        self.refused([ask(1, 11)], ask(1, 11, ticks=10001), -2)

    def test_ask_before_too_many_letters(self):
        waiting = [ask(4, 14)] + letters_149()
        self.refused(FULL, ask(5, 11), -1)
        self.refused(FULL, ask(1, 11, 0, 1001), -1)
        self.refused(FULL, ask(1, 11, ends=2), -2)
        self.refused(FULL, ask(1, 11, ticks=10001), -2)
        self.refused(waiting, ask(4, 11), -8)
        self.refused(waiting, ask(3, 11), -6)
        self.refused(waiting, ask(4, 11, 5, ends=2), -1)
        self.refused(waiting, ask(4, 11, ends=2), -2)

    def test_tell(self):
        self.refused([], tell(5, 11), -1)
        self.refused([], tell(1, 15), -1)
        self.refused([], tell(1, 11, 1001), -1)
        self.refused(FULL, tell(1, 11), -6)
        self.refused(FULL, tell(0, 11), -1)
        self.refused(FULL, tell(1, 10), -1)
        self.refused(FULL, tell(1, 11, 1001), -1)

    def test_stop(self):
        self.refused([], stop(0), -1)
        self.refused([], stop(11), -1)
        self.refused([], stop(1), -8)
        self.refused([ask(2, 11)], stop(1), -8)

    def test_deliver_has_no_other_refusal(self):
        for p, q in ((1, 11), (11, 1), (11, 12), (11, 11), (1, 1), (1, 2), (0, 0), (5, 10), (MOST, MOST)):
            self.refused([tell(2, 12)], deliver(p, q), -5)
        self.refused([die(11)], deliver(1, 11), -5)

    def test_work(self):
        self.refused([], work(1), -1)
        self.refused([], work(11), -5)
        self.refused([die(11)], work(11), -8)
        self.refused(handed_over(1, 11) + [die(11)], work(11), -8)

    def test_answer(self):
        self.refused([], answer(10, 0), -1)
        self.refused([], answer(15, 1), -1)
        self.refused([], answer(11, 0), -5)
        self.refused([], answer(11, 1), -5)
        self.refused([die(11)], answer(11, 1), -5)

    def test_die(self):
        self.refused([], die(4), -1)
        self.refused([die(11)], die(11), -8)
        self.refused(handed_over(1, 11, 3) + [work(11)], die(11), -8)
        self.refused(handed_over(1, 11, 4) + [work(11)], die(11), -8)

    def test_start(self):
        for p in (0, 1, 4, 10, 15, MOST):
            self.refused([], start(p), -1)
            self.refused([die(11)], start(p), -1)
        for p in (11, 12, 13, 14):
            self.refused([], start(p), -8)
            self.refused([die(p), start(p)], start(p), -8)
        self.refused([die(11)], start(12), -8)

    def test_ticks(self):
        for n in (0, 10001, 10002, MOST):
            self.refused([], ticks(n), -1)
            self.refused([ask(1, 11, ends=1, ticks=1)], ticks(n), -1)

    def test_turns(self):
        for n in (501, 502, MOST):
            self.refused([], turns(n), -1)
            self.refused(FULL, turns(n), -1)

    def test_came_and_waits(self):
        for c in (0, 5, 10, 11, 14, MOST):
            self.refused([], came(c), -1)
            self.refused([], waits(c), -1)
            self.refused([ask(1, 11)], came(c), -1)
            self.refused([ask(1, 11)], waits(c), -1)

    def test_server(self):
        for p in (0, 1, 4, 10, 15, MOST):
            self.refused([], server(p), -1)
            self.refused([die(11)], server(p), -1)


def lively():
    """A line in which all sorts of things are under way."""
    calls = handed_over(1, 11, 1, 5) + [work(11)] + handed_over(2, 11, 0, 6)
    calls += [ask(3, 12, 0, 7), tell(3, 13, 8), deliver(3, 12), die(14)]
    calls += [stop(3), ask(3, 12, 0, 9, ends=1, ticks=20), ticks(19)]
    return calls


REFUSED = (
    (ask(5, 11), -1), (ask(4, 15), -1), (ask(4, 11, 5), -1), (ask(4, 11, 0, 1001), -1),
    (ask(4, 11, 2, 0, 10), -1), (ask(4, 11, 0, 0, 12), -1), (ask(4, 11, ends=2), -2),
    (ask(4, 11, ends=1, ticks=10001), -2), (ask(1, 11), -8), (ask(1, 12, ends=1), -8),
    (tell(0, 11), -1), (tell(1, 15), -1), (tell(1, 11, 1001), -1),
    (stop(5), -1), (stop(4), -8),
    (deliver(11, 1), -5), (deliver(1, 12), -5), (deliver(MOST, 0), -5),
    (work(10), -1), (work(14), -8), (work(12), -5),
    (answer(15, 1), -1), (answer(11, 0), -5), (answer(11, 2), -5), (answer(14, 1), -5),
    (die(10), -1), (die(14), -8),
    (start(10), -1), (start(15), -1), (start(4), -1), (start(11), -8), (start(13), -8),
    (ticks(0), -1), (ticks(10001), -1), (ticks(MOST), -1), (turns(501), -1), (turns(MOST), -1),
    (came(0), -1), (came(5), -1), (came(11), -1), (waits(0), -1), (waits(5), -1), (waits(MOST), -1),
    (server(10), -1), (server(15), -1), (server(1), -1),
)


class AllIsAsItWas(unittest.TestCase):
    def act(self, world, call):
        return answer_to(world, call[0], call[1:])

    def test_what_the_looks_tell_behind_a_refusal(self):
        expected = after(lively(), all_looks())
        for call, number in REFUSED:
            with self.subTest(call=call):
                self.assertEqual(after(lively(), [call] + all_looks()), [[number]] + expected)

    def test_what_the_looks_tell_behind_all_refusals(self):
        refused = [call for call, number in REFUSED]
        self.assertEqual(
            after(lively(), refused + all_looks()),
            [[number] for call, number in REFUSED] + after(lively(), all_looks()))

    def test_the_time_and_the_numbers_of_calls_behind_all_refusals(self):
        refused = [call for call, number in REFUSED]
        self.assertEqual(
            after(lively() + refused, [waits(3), ask(4, 11, ends=1, ticks=3), waits(4), ticks(1), waits(3), came(3)]),
            [[1, 4, 12, 1, 20], [5], [1, 5, 11, 1, 22], [20], [0], [2, 3, 3, 0, 4, 2, 0]])

    def test_too_many_letters_as_the_looks_tell(self):
        for call in (ask(1, 11, ends=1), ask(3, 11), tell(3, 11)):
            with self.subTest(call=call):
                self.assertEqual(after(FULL, [call] + all_looks()), [[-6]] + after(FULL, all_looks()))

    def test_the_answers_behind_a_refusal(self):
        behind = [deliver(3, 12), deliver(3, 13), work(11), work(12), answer(11, 1), deliver(11, 1), deliver(11, 2),
                  deliver(12, 3), deliver(1, 11), die(11), ask(4, 11), stop(4), ask(1, 11),
                  start(14), ticks(1), turns(3)] + all_looks()
        expected = after(lively(), behind)
        for call, number in REFUSED:
            with self.subTest(call=call):
                self.assertEqual(after(lively(), [call] + behind), [[number]] + expected)

    def test_the_whole_world_behind_a_refusal(self):
        for call, number in REFUSED:
            with self.subTest(call=call):
                world = World()
                for other in lively():
                    self.act(world, other)
                before = snapshot(world)
                self.assertEqual(self.act(world, call), [number])
                self.assertEqual(snapshot(world), before)

    def test_too_many_letters(self):
        world = World()
        for call in FULL:
            self.act(world, call)
        before = snapshot(world)
        self.assertEqual(self.act(world, ask(1, 11, ends=1)), [-6])
        self.assertEqual(self.act(world, ask(3, 11)), [-6])
        self.assertEqual(self.act(world, tell(3, 11)), [-6])
        self.assertEqual(snapshot(world), before)

    def test_a_refused_call_takes_no_number(self):
        self.assertEqual(
            run([ask(1, 15), ask(1, 11, ends=2), ask(1, 11), ask(1, 11), ask(2, 11)]),
            [[-1], [-2], [1], [-8], [2]])


if __name__ == "__main__":
    unittest.main()
