"""Lines of a hundred calls that mix all fourteen, held against the document built another way."""

import unittest

from answeredonce.world import answers
from tests.drawn import ASKING, BUSY, drawn_line
from tests.lines import MOST, air, ask, came, run, server, split, ticks, turns, waits
from tests.model import model_answers


def flat(calls):
    return [number for call in calls for number in call]


class LongLines(unittest.TestCase):
    def on_each_line(self, check):
        for often in (BUSY, ASKING):
            for rounds in (False, True):
                for seed in range(150):
                    with self.subTest(asking=often == ASKING, rounds=rounds, seed=seed):
                        check(drawn_line(seed, often, rounds))

    def test_the_lines_are_as_they_should_be(self):
        refusals = set()
        longest = 0

        def check(calls):
            nonlocal longest
            self.assertEqual(len(calls), 100)
            self.assertEqual({call[0] for call in calls}, set(range(14)))
            self.assertLessEqual(len(flat(calls)), 800)
            longest = max(longest, len(flat(calls)))
            refusals.update((call[0], part[0]) for call, part in zip(calls, run(calls)) if part[0] < 0)

        self.on_each_line(check)
        self.assertGreater(longest, 600)
        self.assertEqual(
            refusals - {(0, -6), (1, -6)},
            {(0, -1), (0, -2), (0, -8), (1, -1), (2, -1), (2, -8), (3, -5), (4, -1), (4, -5), (4, -8), (5, -1), (5, -5),
             (6, -1), (6, -8), (7, -1), (7, -8), (8, -1), (9, -1), (10, -1), (11, -1), (12, -1)})

    def test_they_answer_as_the_document_says(self):
        self.on_each_line(lambda calls: self.assertEqual(answers(flat(calls)), model_answers(flat(calls))))

    def test_the_list_is_the_same_afterwards_and_a_second_time_answers_as_the_first(self):
        def check(calls):
            line = flat(calls)
            first = answers(line)
            self.assertEqual(line, flat(calls))
            self.assertEqual(answers(line), first)

        self.on_each_line(check)

    def test_whole_numbers_and_a_refusal_alone(self):
        def check(calls):
            given = answers(flat(calls))
            self.assertEqual({type(number) for number in given}, {int})
            for part in split(given):
                self.assertTrue(len(part) == 1 or min(part) >= 0, part)

        self.on_each_line(check)

    def test_800_numbers(self):
        line = flat([ask(1 + k % 4, 11 + k % 3, 0, k, 0, 1, 0) for k in range(100)])
        self.assertEqual(len(line), 800)
        self.assertEqual(answers(line), flat([[1, k] for k in range(1, 51)]) + [1, -6] * 50)
        self.assertEqual(answers(line), model_answers(line))

    def test_as_many_numbers_as_fourteen_sorts_allow(self):
        calls = [ask(1 + k % 4, 11 + k % 4, k % 5, k, 12 if k % 5 == 2 else 0, k % 2, k % 3) for k in range(86)]
        calls += [[1, 1, 11, 7], [2, 1], [3, 1, 11], [4, 11], [5, 11, 1], [6, 11], [7, 11], ticks(1), turns(500),
                  came(1), waits(1), server(11), air(), server(12)]
        self.assertEqual(len(calls), 100)
        self.assertEqual(answers(flat(calls)), model_answers(flat(calls)))

    def test_500_rounds_a_hundred_times(self):
        calls = [turns(500)] * 100
        self.assertEqual(run(calls), [[0]] * 100)

    def test_500_rounds_behind_each_asking(self):
        calls = [ask(1, 11, 0, 1000), turns(500)] * 49 + [came(1), server(11)]
        answered = run(calls)
        self.assertEqual(answered[98], [49] + flat([[k, 0, 1000 * k] for k in range(1, 50)]))
        self.assertEqual(answered[99], [1, 1, 49000, 0, 0, 0])

    def test_largest_numbers_throughout(self):
        for call, size in ((0, 7), (1, 3), (2, 1), (3, 2), (4, 1), (5, 2), (6, 1), (7, 1), (8, 1), (9, 1), (10, 1),
                           (11, 1), (12, 1)):
            with self.subTest(call=call):
                self.assertEqual(answers(([call] + [MOST] * size) * 100), [1, -5 if call == 3 else -1] * 100)


if __name__ == "__main__":
    unittest.main()
