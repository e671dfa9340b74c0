"""The one function, the list handed in and the list given back."""

import unittest

from answeredonce.world import answers

LINE = [0, 1, 11, 1, 5, 0, 1, 10000, 3, 1, 11, 3, 1, 11, 4, 11, 1, 2, 11, 9, 5, 11, 1, 3, 11, 1, 2, 1, 6, 11, 6, 11,
        0, 2, 12, 0, 1000, 0, 0, 0, 2, 2, 13, 9, 1, 12, 12, 7, 11, 12, 11, 10, 1, 0, 1, 14, 0, 0, 0, 1, 7, 8, 6, 11, 1,
        8, 1, 11, 1, 10, 1, 8, 0]
ANSWERED = [1, 1, 2, 1, 1, 6, 0, 1, 1, 1, 5, 0, 5, 1, 1, 1, 5, 0, 1, 0, 3, 1, 1, 5, 3, 3, 1, 5, 1, -8, 1, 1, 1, -8,
            1, 2, 1, 2,
            33, 6, 2, 11, 0, 0, 0, 0, 9, 0, 1, 11, 2, 1, 11, 1, 4, 1, 2, 12, 1, 2, 2, 12, 0, 2, 2, 0, 1000, 0,
            2, 12, 2, 2,
            1, 5, 6, 1, 1, 0, 0, 0, 0, 1, 2, 6, 1, 2, 0, 0, 0, 0, 4, 1, 1, 0, 5, 1, 3, 1, 6, 5, 1, 3, 14, 1, 7,
            1, 7, 1, 0, 7, 2, 1, 0, 5, 3, 2, 0, 1, -1]


class Interface(unittest.TestCase):
    def test_counts_and_numbers_in_one_list(self):
        self.assertEqual(answers(list(LINE)), ANSWERED)

    def test_any_call_may_come_first(self):
        self.assertEqual(answers([0, 4, 14, 2, 1000, 14, 1, 0]), [1, 1])
        self.assertEqual(answers([1, 1, 11, 0]), [1, 0])
        self.assertEqual(answers([2, 1]), [1, -8])
        self.assertEqual(answers([3, 1, 11]), [1, -5])
        self.assertEqual(answers([4, 11]), [1, -5])
        self.assertEqual(answers([5, 11, 1]), [1, -5])
        self.assertEqual(answers([6, 11]), [1, 0])
        self.assertEqual(answers([7, 11]), [1, -8])
        self.assertEqual(answers([8, 10000]), [1, 10000])
        self.assertEqual(answers([9, 500]), [1, 0])
        self.assertEqual(answers([10, 1]), [1, 0])
        self.assertEqual(answers([11, 1]), [1, 0])
        self.assertEqual(answers([12, 11]), [6, 1, 1, 0, 0, 0, 0])
        self.assertEqual(answers([13]), [1, 0])

    def test_what_is_handed_in_is_not_changed(self):
        line = list(LINE)
        answers(line)
        self.assertEqual(line, LINE)

    def test_what_is_handed_in_is_not_changed_for_a_while_either(self):
        class Watched(list):
            def refuse(self, *given, **named):
                raise AssertionError("the list that was handed in is changed")

            append = extend = insert = pop = remove = clear = sort = reverse = refuse
            __setitem__ = __delitem__ = __iadd__ = __imul__ = refuse

        self.assertEqual(answers(Watched(LINE)), ANSWERED)

    def test_a_second_time_answers_as_the_first(self):
        self.assertEqual(answers(list(LINE)), answers(list(LINE)))
        answers([6, 11, 6, 12, 6, 13, 6, 14, 0, 1, 11, 0, 0, 0, 0, 0, 8, 77, 7, 11, 1, 4, 14, 9])
        self.assertEqual(answers(list(LINE)), ANSWERED)

    def test_what_is_given_back_is_a_new_list(self):
        first = answers(list(LINE))
        first.clear()
        self.assertEqual(answers(list(LINE)), ANSWERED)

    def test_whole_numbers_in_a_list(self):
        given = answers(list(LINE))
        self.assertIs(type(given), list)
        self.assertEqual({type(number) for number in given}, {int})

    def test_a_hundred_calls_of_one_number(self):
        self.assertEqual(answers([13] * 100), [1, 0] * 100)

    def test_a_hundred_calls(self):
        self.assertEqual(answers([0, 1, 11, 0, 0, 0, 0, 1] * 100), [1, 1] + [1, -8] * 99)


if __name__ == "__main__":
    unittest.main()
