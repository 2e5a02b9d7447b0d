"""Promise 2: which lists of numbers are a code, and which are refused."""

import itertools
import unittest

from tests.lines import (HIGHEST, STAY, again, answered, ask, backward, edge, either, forward, has,
                         in_order, last, node, nodes, of_kind, to)
from tests.model import whole

PLAIN = [STAY, forward(1), forward(5), backward(1), backward(5), of_kind(1), of_kind(8)]


def taken(code):
    """Whether ask takes the code; on a graph without nodes it answers 0 then."""
    told = answered([ask(code)])
    if told not in ([[0]], [[-1]]):
        raise AssertionError(told)
    return told == [[0]]


class Codes(unittest.TestCase):

    def taken(self, code):
        with self.subTest(code):
            self.assertTrue(taken(code))

    def refused(self, code):
        with self.subTest(code):
            self.assertFalse(taken(code))

    def test_each_plain_sort(self):
        for code in PLAIN:
            self.taken(code)

    def test_all_labels_and_kinds(self):
        for number in range(1, 6):
            self.taken(forward(number))
            self.taken(backward(number))
        for number in range(1, 9):
            self.taken(of_kind(number))

    def test_each_sort_round_each_plain_one(self):
        for one in PLAIN:
            self.taken(again(one))
            self.taken(has(one))
            for other in PLAIN:
                self.taken(in_order(one, other))
                self.taken(either(one, other))

    def test_nested(self):
        small = [again(forward(1)), has(of_kind(2)), in_order(STAY, backward(3)), either(of_kind(4), STAY)]
        for one in small:
            self.taken(again(one))
            self.taken(has(one))
            for other in small:
                self.taken(in_order(one, other))
                self.taken(either(again(one), has(other)))

    def test_no_numbers_at_all(self):
        self.refused([])

    def test_broken_off(self):
        code = in_order(either(forward(1), again(has(of_kind(2)))), backward(3))
        self.taken(code)
        for length in range(len(code)):
            self.refused(code[:length])

    def test_each_sort_broken_off(self):
        for code in ([1], [2], [3], [4], [5], [6], [7], [4, 0], [5, 0], [4, 1, 1], [5, 1, 1], [4, 0, 1],
                     [5, 0, 3], [6, 1], [7, 2], [6, 6], [7, 7]):
            self.refused(code)

    def test_numbers_left_over(self):
        for code in PLAIN + [again(STAY), has(forward(1)), in_order(STAY, STAY), either(STAY, of_kind(1))]:
            for more in ([0], [1], [8], [1, 1], [HIGHEST]):
                self.refused(code + more)

    def test_labels_that_are_none(self):
        for wrong in (0, 6, 7, 8, HIGHEST):
            self.refused(forward(wrong))
            self.refused(backward(wrong))
            self.refused(in_order(forward(1), backward(wrong)))
            self.refused(again(has(forward(wrong))))

    def test_kinds_that_are_none(self):
        for wrong in (0, 9, 10, HIGHEST):
            self.refused(of_kind(wrong))
            self.refused(either(of_kind(wrong), STAY))

    def test_sorts_that_are_none(self):
        for wrong in (8, 9, 60, HIGHEST):
            self.refused([wrong])
            self.refused([wrong, 0])
            self.refused([wrong, 1])
            self.refused(again([wrong]))
            self.refused(in_order(STAY, [wrong]))
            self.refused(either([wrong], STAY))

    def test_every_short_list(self):
        for length in range(5):
            for numbers in itertools.product(range(10), repeat=length):
                code = list(numbers)
                self.assertEqual(taken(code), whole(code) is not None, code)


class Length(unittest.TestCase):

    def ask_and_to(self, code):
        return last(nodes(3) + [ask(code), to(2)], 2)

    def test_just_60(self):
        for code in ([6] * 59 + [0], [7] * 59 + [0], [6] * 58 + [3, 1], [4, 0] * 29 + [6, 0],
                     [6] + [5] * 19 + [0] * 19 + [4] * 10 + [0] * 11):
            self.assertEqual(len(code), 60)
            self.assertIsNotNone(whole(code))
            with self.subTest(code):
                self.assertEqual(self.ask_and_to(code), [[3], [1, 2]])

    def test_61_and_70(self):
        for code in ([6] * 60 + [0], [7] * 60 + [0], [4, 0] * 30 + [0], [6] * 69 + [0], [7] * 68 + [1, 1],
                     [0] * 61, [0] * 70, [5] * 23 + [0] * 24 + [0] * 23, [HIGHEST] * 70):
            self.assertIn(len(code), (61, 70))
            with self.subTest(code):
                self.assertEqual(self.ask_and_to(code), [[-1], [1, 2]])

    def test_too_long_though_its_beginning_would_do(self):
        self.assertEqual(self.ask_and_to([6] * 59 + [0] + [0]), [[-1], [1, 2]])

    def test_59_to_62(self):
        for length, told in ((59, [1]), (60, [1]), (61, [-1]), (62, [-1])):
            self.assertEqual(last([node(), ask([6] * (length - 1) + [0])]), told)


class Deep(unittest.TestCase):

    def test_two_within_on_the_left_and_on_the_right(self):
        left = STAY
        right = STAY
        for _ in range(29):
            left = in_order(left, STAY)
            right = in_order(STAY, right)
        self.assertEqual((len(left), len(right)), (59, 59))
        for code in (left, right):
            self.assertEqual(last(nodes(2) + [ask(code), to(1)], 2), [[2], [1, 1]])

    def test_the_deepest_leads_where_its_inmost_does(self):
        cases = ((6, forward(1), [2, 1, 2]), (6, backward(1), [1, 1]),
                 (7, forward(1), [1, 1]), (7, backward(1), [0]))
        for outer, inmost, told in cases:
            code = [outer] * 58 + inmost
            self.assertEqual(len(code), 60)
            with self.subTest(code):
                self.assertEqual(last(nodes(2) + [edge(1, 1, 2), ask(code), to(1)]), told)


if __name__ == "__main__":
    unittest.main()
