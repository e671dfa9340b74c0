"""Every refusal, the order among several, and that all is as it was after each."""

import unittest

from answeredonce.acts import answer as act_answer
from answeredonce.acts import ask as act_ask
from answeredonce.acts import deliver as act_deliver
from answeredonce.acts import die as act_die
from answeredonce.acts import stop as act_stop
from answeredonce.acts import tell as act_tell
from answeredonce.acts import work as act_work
from answeredonce.state import World
from tests.lines import MOST, after, answer, ask, deliver, die, handed_over, letters_149, run, stop, tell, work
from tests.snapshots import snapshot

FULL = letters_149() + [tell(2, 12)]
ACTS = (act_ask, act_tell, act_stop, act_deliver, act_work, act_answer, act_die)


class OrderAmongSeveral(unittest.TestCase):
    def refused(self, before, call, number):
        with self.subTest(call=call):
            self.assertEqual(after(before, [call]), [[number]])

    def test_ask_each_alone(self):
        self.refused([], ask(5, 11), -1)
        self.refused([], ask(1, 15), -1)
        self.refused([], ask(1, 11, 5), -1)
        self.refused([], ask(1, 11, 0, 1001), -1)
        self.refused([], ask(1, 11, 2, 0, 0), -1)
        self.refused([], ask(1, 11, 0, 0, 11), -1)
        self.refused([], ask(1, 11, ends=2), -2)
        self.refused([], ask(1, 11, ticks=10001), -2)
        self.refused([ask(1, 11)], ask(1, 12), -8)
        self.refused(FULL, ask(1, 11), -6)

    def test_ask_there_is_no_such_before_a_bad_end(self):
        bad = {"ends": 2, "ticks": 10001}
        self.refused([], ask(5, 11, **bad), -1)
        self.refused([], ask(1, 15, **bad), -1)
        self.refused([], ask(1, 11, 5, **bad), -1)
        self.refused([], ask(1, 11, 0, 1001, **bad), -1)
        self.refused([], ask(1, 11, 2, 0, 10, **bad), -1)
        self.refused([], ask(1, 11, 0, 0, 11, **bad), -1)

    def test_ask_before_the_caller_waits(self):
        self.refused([ask(1, 11)], ask(1, 15), -1)
        self.refused([ask(1, 11)], ask(1, 11, 5), -1)
        self.refused([ask(1, 11)], ask(1, 11, ends=2), -2)
        self.refused([ask(1, 11)], ask(1, 11, ticks=10001), -2)

    def test_ask_before_too_many_letters(self):
        waiting = [ask(4, 14)] + letters_149()
        self.refused(FULL, ask(5, 11), -1)
        self.refused(FULL, ask(1, 11, 0, 1001), -1)
        self.refused(FULL, ask(1, 11, ends=2), -2)
        self.refused(FULL, ask(1, 11, ticks=10001), -2)
        self.refused(waiting, ask(4, 11), -8)
        self.refused(waiting, ask(3, 11), -6)
        self.refused(waiting, ask(4, 11, 5, ends=2), -1)
        self.refused(waiting, ask(4, 11, ends=2), -2)

    def test_tell(self):
        self.refused([], tell(5, 11), -1)
        self.refused([], tell(1, 15), -1)
        self.refused([], tell(1, 11, 1001), -1)
        self.refused(FULL, tell(1, 11), -6)
        self.refused(FULL, tell(0, 11), -1)
        self.refused(FULL, tell(1, 10), -1)
        self.refused(FULL, tell(1, 11, 1001), -1)

    def test_stop(self):
        self.refused([], stop(0), -1)
        self.refused([], stop(11), -1)
        self.refused([], stop(1), -8)
        self.refused([ask(2, 11)], stop(1), -8)

    def test_deliver_has_no_other_refusal(self):
        for p, q in ((1, 11), (11, 1), (11, 12), (11, 11), (1, 1), (1, 2), (0, 0), (5, 10), (MOST, MOST)):
            self.refused([tell(2, 12)], deliver(p, q), -5)
        self.refused([die(11)], deliver(1, 11), -5)

    def test_work(self):
        self.refused([], work(1), -1)
        self.refused([], work(11), -5)
        self.refused([die(11)], work(11), -8)
        self.refused(handed_over(1, 11) + [die(11)], work(11), -8)

    def test_answer(self):
        self.refused([], answer(10, 0), -1)
        self.refused([], answer(15, 1), -1)
        self.refused([], answer(11, 0), -5)
        self.refused([], answer(11, 1), -5)
        self.refused([die(11)], answer(11, 1), -5)

    def test_die(self):
        self.refused([], die(4), -1)
        self.refused([die(11)], die(11), -8)
        self.refused(handed_over(1, 11, 3) + [work(11)], die(11), -8)
        self.refused(handed_over(1, 11, 4) + [work(11)], die(11), -8)


def lively():
    """A line in which all sorts of things are under way."""
    calls = handed_over(1, 11, 1, 5) + [work(11)] + handed_over(2, 11, 0, 6)
    calls += [ask(3, 12, 0, 7), tell(3, 13, 8), deliver(3, 12), die(14)]
    return calls


REFUSED = (
    (ask(5, 11), -1), (ask(4, 15), -1), (ask(4, 11, 5), -1), (ask(4, 11, 0, 1001), -1),
    (ask(4, 11, 2, 0, 10), -1), (ask(4, 11, 0, 0, 12), -1), (ask(4, 11, ends=2), -2),
    (ask(4, 11, ends=1, ticks=10001), -2), (ask(1, 11), -8), (ask(1, 12, ends=1), -8),
    (tell(0, 11), -1), (tell(1, 15), -1), (tell(1, 11, 1001), -1),
    (stop(5), -1), (stop(4), -8),
    (deliver(11, 1), -5), (deliver(1, 12), -5), (deliver(MOST, 0), -5),
    (work(10), -1), (work(14), -8), (work(12), -5),
    (answer(15, 1), -1), (answer(11, 0), -5), (answer(11, 2), -5), (answer(14, 1), -5),
    (die(10), -1), (die(14), -8),
)


class AllIsAsItWas(unittest.TestCase):
    def act(self, world, call):
        return ACTS[call[0]](world, *call[1:])

    def test_the_answers_behind_a_refusal(self):
        behind = [deliver(3, 12), deliver(3, 13), work(11), work(12), answer(11, 1), deliver(11, 1), deliver(11, 2),
                  deliver(12, 3), deliver(1, 11), die(11), ask(4, 11), stop(4), ask(1, 11)]
        expected = after(lively(), behind)
        for call, number in REFUSED:
            with self.subTest(call=call):
                self.assertEqual(after(lively(), [call] + behind), [[number]] + expected)

    def test_the_whole_world_behind_a_refusal(self):
        for call, number in REFUSED:
            with self.subTest(call=call):
                world = World()
                for other in lively():
                    self.act(world, other)
                before = snapshot(world)
                self.assertEqual(self.act(world, call), [number])
                self.assertEqual(snapshot(world), before)

    def test_too_many_letters(self):
        world = World()
        for call in FULL:
            self.act(world, call)
        before = snapshot(world)
        self.assertEqual(self.act(world, ask(1, 11, ends=1)), [-6])
        self.assertEqual(self.act(world, ask(3, 11)), [-6])
        self.assertEqual(self.act(world, tell(3, 11)), [-6])
        self.assertEqual(snapshot(world), before)

    def test_a_refused_call_takes_no_number(self):
        self.assertEqual(
            run([ask(1, 15), ask(1, 11, ends=2), ask(1, 11), ask(1, 11), ask(2, 11)]),
            [[-1], [-2], [1], [-8], [2]])


if __name__ == "__main__":
    unittest.main()
