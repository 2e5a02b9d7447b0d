"""What round (rounds) answers."""

import unittest

from tests.lines import (ROUNDS, STAY, again, answered, ask, backward, cut, edge, edges, either, forward, has,
                         in_order, kinds, last, node, nodes, of_kind, to)


def told(graph, code):
    return last(graph + [ask(code), ROUNDS])


class Rounds(unittest.TestCase):

    GRAPH = [node(3), node(), node(3), node()] + edges((4, 1, 4), (1, 1, 2), (2, 1, 1), (2, 2, 2), (3, 2, 4))

    def test_rising_whatever_the_order_of_the_edges(self):
        graph = nodes(12) + edges((12, 1, 12), (3, 1, 3), (10, 1, 10), (1, 1, 1), (1, 1, 2))
        self.assertEqual(told(graph, forward(1)), [4, 1, 3, 10, 12])

    def test_each_sort(self):
        cases = [
            (STAY, [4, 1, 2, 3, 4]),
            (forward(1), [1, 4]),
            (backward(2), [1, 2]),
            (of_kind(3), [2, 1, 3]),
            (in_order(forward(1), forward(1)), [3, 1, 2, 4]),
            (either(forward(1), forward(2)), [2, 2, 4]),
            (again(forward(5)), [4, 1, 2, 3, 4]),
            (has(forward(2)), [2, 2, 3]),
        ]
        for code, answer in cases:
            with self.subTest(code):
                self.assertEqual(told(self.GRAPH, code), answer)

    def test_none(self):
        self.assertEqual(told(nodes(3) + edges((1, 1, 2), (2, 1, 3)), forward(1)), [0])
        self.assertEqual(told(nodes(3), of_kind(1)), [0])

    def test_not_where_it_leads_from_one_to_another_alone(self):
        self.assertEqual(last(nodes(2) + edges((1, 1, 2), (2, 1, 1)) + [ask(forward(1)), to(1), ROUNDS], 2),
                         [[1, 2], [0]])

    def test_a_ring_of_three(self):
        graph = nodes(4) + edges((2, 1, 3), (3, 1, 4), (4, 1, 2), (1, 1, 2))
        three = in_order(forward(1), in_order(forward(1), forward(1)))
        self.assertEqual(told(graph, three), [3, 2, 3, 4])
        self.assertEqual(told(graph, in_order(forward(1), again(forward(1)))), [3, 2, 3, 4])

    def test_no_nodes_at_all(self):
        self.assertEqual(answered([ROUNDS, ask(again(forward(1))), ROUNDS]), [[0], [0], [0]])

    def test_stay_before_the_first_ask(self):
        self.assertEqual(answered([node(), ROUNDS, node(), ROUNDS]), [[1], [1, 1], [2], [2, 1, 2]])

    def test_for_the_graph_as_it_is_then(self):
        calls = nodes(2) + [ask(in_order(forward(1), of_kind(6))), edge(2, 1, 2), ROUNDS, kinds(2, 6), ROUNDS,
                            node(6), edge(3, 1, 3), ROUNDS, cut(2, 1, 2), ROUNDS]
        self.assertEqual(last(calls, 9), [[1], [0], [0], [1, 2], [3], [2], [2, 2, 3], [1], [1, 3]])


if __name__ == "__main__":
    unittest.main()
