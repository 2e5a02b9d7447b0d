"""Promise 1: node and kinds."""

import unittest

from tests.lines import HIGHEST, answered, ask, kinds, last, node, nodes, of_kind, to


class Node(unittest.TestCase):

    def test_numbers_rise_from_1(self):
        self.assertEqual(answered([node(), node(3), node(1, 8)]), [[1], [2], [3]])

    def test_no_kinds_at_all(self):
        calls = [node()]
        for kind in range(1, 9):
            calls.append(ask(of_kind(kind)))
        self.assertEqual(answered(calls), [[1]] + [[0]] * 8)

    def test_all_kinds(self):
        calls = [node(), node(1, 2, 3, 4, 5, 6, 7, 8)]
        for kind in range(1, 9):
            calls += [ask(of_kind(kind)), to(1), to(2)]
        self.assertEqual(answered(calls), [[1], [2]] + [[1], [0], [1, 2]] * 8)

    def test_just_the_kinds_that_are_told(self):
        calls = [node(2, 5, 7)]
        for kind in range(1, 9):
            calls.append(ask(of_kind(kind)))
        self.assertEqual(answered(calls)[1:], [[0], [1], [0], [0], [1], [0], [1], [0]])

    def test_kinds_that_do_not_rise(self):
        for wrong in ([2, 1], [8, 7, 6], [3, 3], [1, 2, 2], [1, 5, 4, 8], [1] * 12):
            with self.subTest(wrong):
                self.assertEqual(answered([node(*wrong), node()]), [[-1], [1]])

    def test_kinds_that_are_none(self):
        for wrong in ([0], [9], [HIGHEST], [0, 1], [1, 9], [8, 9], [1, 2, HIGHEST], list(range(1, 13))):
            with self.subTest(wrong):
                self.assertEqual(answered([node(*wrong), node()]), [[-1], [1]])

    def test_twelve_and_no_more(self):
        told = answered(nodes(14))
        self.assertEqual(told, [[number] for number in range(1, 13)] + [[-5], [-5]])

    def test_the_first_refusal_of_two(self):
        calls = nodes(12) + [node(9), node(2, 1), node(4, 4), node(0), node(1)]
        self.assertEqual(last(calls, 5), [[-1], [-1], [-1], [-1], [-5]])


class Kinds(unittest.TestCase):

    def test_answers_0(self):
        self.assertEqual(answered([node(), kinds(1, 4), kinds(1), kinds(1, 1, 2, 3, 4, 5, 6, 7, 8)]),
                         [[1], [0], [0], [0]])

    def test_in_the_place_of_the_old_ones(self):
        calls = [node(1, 2), node(1), kinds(1, 2, 3)]
        for kind in (1, 2, 3):
            calls += [ask(of_kind(kind)), to(1)]
        self.assertEqual(answered(calls)[3:], [[1], [0], [1], [1, 1], [1], [1, 1]])

    def test_none_in_the_place_of_the_old_ones(self):
        self.assertEqual(last([node(6), kinds(1), ask(of_kind(6))]), [0])

    def test_of_the_last_node_alone(self):
        calls = nodes(12) + [kinds(12, 8), ask(of_kind(8)), to(11), to(12)]
        self.assertEqual(last(calls, 4), [[0], [1], [0], [1, 12]])

    def test_wrong_kinds(self):
        wrongs = ([2, 1], [3, 3], [0], [9], [HIGHEST], [0, 1], [7, 9], [1, 2, 3, 4, 5, 6, 7, 8, 9])
        for wrong in wrongs:
            with self.subTest(wrong):
                calls = [node(5), kinds(1, *wrong), ask(of_kind(5))]
                self.assertEqual(answered(calls), [[1], [-1], [1]])

    def test_a_node_that_is_not_there(self):
        for x in (0, 3, 12, 13, HIGHEST):
            with self.subTest(x):
                calls = [node(), node(), kinds(x, 1), kinds(x), kinds(x, 9), ask(of_kind(1))]
                self.assertEqual(last(calls, 4), [[-1], [-1], [-1], [0]])

    def test_when_there_are_no_nodes(self):
        self.assertEqual(answered([kinds(0), kinds(1), kinds(1, 1)]), [[-1], [-1], [-1]])


if __name__ == "__main__":
    unittest.main()
