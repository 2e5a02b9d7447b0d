"""What from (comes_from) answers, and promise 3 for it."""

import unittest

from tests.lines import (HIGHEST, STAY, again, answered, ask, backward, comes_from, cut, edge, edges, either, forward,
                         has, in_order, kinds, last, node, nodes, of_kind, to)

CHAIN = nodes(4) + edges((1, 1, 2), (2, 1, 3), (3, 1, 4))
FORK = [node(2), node(), node(2, 7), node(7)] + edges((1, 1, 2), (1, 2, 3), (2, 3, 4), (3, 1, 4))


def told(graph, code, count):
    """What from answers for each of count nodes."""
    return last(graph + [ask(code)] + [comes_from(y) for y in range(1, count + 1)], count)


class From(unittest.TestCase):

    def test_rising_whatever_the_order_of_the_edges(self):
        graph = nodes(4) + edges((4, 1, 2), (1, 1, 2), (3, 1, 2), (2, 1, 2))
        self.assertEqual(told(graph, forward(1), 4), [[0], [4, 1, 2, 3, 4], [0], [0]])

    def test_each_sort(self):
        cases = [
            (STAY, [[1, 1], [1, 2], [1, 3], [1, 4]]),
            (forward(1), [[0], [1, 1], [0], [1, 3]]),
            (backward(1), [[1, 2], [0], [1, 4], [0]]),
            (of_kind(7), [[0], [0], [1, 3], [1, 4]]),
            (in_order(forward(2), forward(1)), [[0], [0], [0], [1, 1]]),
            (either(forward(3), forward(1)), [[0], [1, 1], [0], [2, 2, 3]]),
            (again(forward(1)), [[1, 1], [2, 1, 2], [1, 3], [2, 3, 4]]),
            (has(forward(1)), [[1, 1], [0], [1, 3], [0]]),
        ]
        for code, answer in cases:
            with self.subTest(code):
                self.assertEqual(told(FORK, code, 4), answer)

    def test_over_many_goes(self):
        self.assertEqual(told(CHAIN, again(forward(1)), 4), [[1, 1], [2, 1, 2], [3, 1, 2, 3], [4, 1, 2, 3, 4]])

    def test_all_twelve(self):
        graph = nodes(12) + [edge(x, 2, x % 12 + 1) for x in range(1, 13)]
        everywhere = [12] + list(range(1, 13))
        self.assertEqual(told(graph, again(forward(2)), 12), [everywhere] * 12)

    def test_it_is_to_the_other_way_about(self):
        calls = CHAIN + [ask(forward(1)), to(2), comes_from(2)]
        self.assertEqual(last(calls, 2), [[1, 3], [1, 1]])

    def test_a_node_that_is_not_there(self):
        for y in (0, 3, 12, 13, HIGHEST):
            with self.subTest(y):
                calls = nodes(2) + [comes_from(y), ask(forward(1)), comes_from(y), comes_from(2)]
                self.assertEqual(last(calls, 4), [[-1], [0], [-1], [0]])

    def test_when_there_are_no_nodes(self):
        self.assertEqual(answered([comes_from(0), comes_from(1), comes_from(HIGHEST)]), [[-1], [-1], [-1]])

    def test_the_thirteenth_of_twelve(self):
        self.assertEqual(last(nodes(12) + [comes_from(1), comes_from(12), comes_from(13)], 3), [[1, 1], [1, 12], [-1]])


class Changed(unittest.TestCase):

    def test_stay_before_the_first_ask(self):
        self.assertEqual(last([node(), node(), edge(1, 1, 2), comes_from(1), comes_from(2)], 2), [[1, 1], [1, 2]])

    def test_nodes_that_come_behind_ask(self):
        calls = [ask(again(forward(1))), comes_from(1), node(), comes_from(1), node(), comes_from(2),
                 edge(2, 1, 1), comes_from(1)]
        self.assertEqual(answered(calls), [[0], [-1], [1], [1, 1], [2], [1, 2], [1], [2, 1, 2]])

    def test_kinds_that_change_behind_ask(self):
        calls = [node(), node(), edge(1, 1, 2), ask(in_order(forward(1), of_kind(4))), comes_from(2),
                 kinds(2, 4), comes_from(2), kinds(2, 5), comes_from(2)]
        self.assertEqual(last(calls, 5), [[0], [0], [1, 1], [0], [0]])

    def test_edges_that_change_behind_ask(self):
        calls = nodes(3) + [ask(again(forward(1))), edge(1, 1, 2), comes_from(2), edge(2, 1, 3), comes_from(3),
                            cut(1, 1, 2), comes_from(3), comes_from(2)]
        self.assertEqual(last(calls, 7), [[1], [2, 1, 2], [2], [3, 1, 2, 3], [1], [2, 2, 3], [1, 2]])


if __name__ == "__main__":
    unittest.main()
