"""waygraph.questions.answers: how calls and answers are told."""

import inspect
import unittest

from tests.lines import HIGHEST
from waygraph.questions import answers

# node (2); node (); edge 1 1 2; ask forward 1; to 1; to 2; to 3; comes_from 2; way 1 2; way 2 1; needed 1 2;
# edges; turn; rounds; way 2 1; kinds 2 (1 3); ask kind 3; rounds; cut; cut; edges.
CALLS = [0, 1, 2, 0, 0, 2, 1, 1, 2, 4, 2, 1, 1, 5, 1, 5, 2, 5, 3, 6, 2, 7, 1, 2, 7, 2, 1, 8, 1, 2,
         11, 9, 10, 7, 2, 1, 1, 2, 2, 1, 3, 4, 2, 3, 3, 10, 3, 1, 1, 2, 3, 1, 1, 2, 11]
TOLD = [1, 1, 1, 2, 1, 1, 1, 1, 2, 1, 2, 1, 0, 1, -1, 2, 1, 1, 3, 1, 2, 2, 1, -3, 4, 1, 1, 1, 2,
        4, 1, 1, 1, 2, 3, 2, 2, 1, 1, 0, 3, 1, 3, 1, 1, 0, 1, 1, 2, 1, 2, 1, 0, 1, -3, 1, 0]


class Interface(unittest.TestCase):

    def test_one_call(self):
        self.assertEqual(answers([0, 0]), [1, 1])
        self.assertEqual(answers([1, 1, 0]), [1, -1])
        self.assertEqual(answers([2, 1, 1, 1]), [1, -1])
        self.assertEqual(answers([3, 1, 1, 1]), [1, -3])
        self.assertEqual(answers([4, 1, 0]), [1, 0])
        self.assertEqual(answers([5, 1]), [1, -1])
        self.assertEqual(answers([6, 1]), [1, -1])
        self.assertEqual(answers([7, 1, 1]), [1, -1])
        self.assertEqual(answers([8, 1, 1]), [1, -1])
        self.assertEqual(answers([9]), [2, 1, 0])
        self.assertEqual(answers([10]), [1, 0])
        self.assertEqual(answers([11]), [1, 0])

    def test_several_one_behind_another(self):
        self.assertEqual(answers(CALLS), TOLD)

    def test_to_tells_its_own_count_too(self):
        self.assertEqual(answers([0, 0, 0, 0, 2, 1, 1, 1, 2, 1, 1, 2, 4, 2, 1, 1, 5, 1])[-4:], [3, 2, 1, 2])

    def test_rows_without_numbers(self):
        self.assertEqual(answers([4, 0, 0, 0, 1, 1, 0, 5, 1]), [1, -1, 1, 1, 1, 0, 2, 1, 1])

    def test_rows_of_refused_calls_are_passed_over(self):
        kinds = list(range(1, 13))
        code = [5] * 70
        calls = [0, 12] + kinds + [0, 0, 1, 1, 12] + kinds + [4, 70] + code + [5, 1]
        self.assertEqual(answers(calls), [1, -1, 1, 1, 1, -1, 1, -1, 2, 1, 1])

    def test_the_highest_numbers(self):
        high = HIGHEST
        calls = [0, 1, high, 1, high, 1, high, 2, high, high, high, 3, high, high, high, 4, 1, high, 5, high,
                 6, high, 7, high, high, 8, high, high]
        self.assertEqual(answers(calls), [1, -1, 1, -1, 1, -1, 1, -3, 1, -1, 1, -1, 1, -1, 1, -1, 1, -1])

    def test_the_longest_list(self):
        calls = ([4, 70] + [7] * 70) * 40
        self.assertEqual(len(calls), 2880)
        self.assertEqual(answers(calls), [1, -1] * 40)

    def test_the_list_stays_as_it_was(self):
        calls = list(CALLS)
        answers(calls)
        self.assertEqual(calls, CALLS)

    def test_the_list_is_not_changed_for_a_while_either(self):
        class Watched(list):
            def refuse(self, *_):
                raise AssertionError("the list is changed")
            append = extend = insert = pop = remove = clear = sort = reverse = refuse
            __setitem__ = __delitem__ = __iadd__ = __imul__ = refuse
        self.assertEqual(answers(Watched(CALLS)), TOLD)

    def test_a_second_time_is_as_the_first(self):
        self.assertEqual(answers(CALLS), answers(CALLS))
        self.assertEqual(answers([0, 0, 5, 1]), [1, 1, 2, 1, 1])
        self.assertEqual(answers([5, 1]), [1, -1])
        self.assertEqual(answers([11, 9]), [1, 0, 2, 1, 0])

    def test_what_is_given_back_is_a_list_of_its_own(self):
        first = answers(CALLS)
        first.append(0)
        self.assertEqual(answers(CALLS), TOLD)

    def test_whole_numbers_in_a_list(self):
        told = answers(CALLS)
        self.assertIs(type(told), list)
        self.assertEqual({type(number) for number in told}, {int})

    def test_its_argument(self):
        self.assertEqual(list(inspect.signature(answers).parameters), ["calls"])
        self.assertEqual(answers(calls=[0, 0]), [1, 1])


if __name__ == "__main__":
    unittest.main()
