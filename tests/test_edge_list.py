"""What edges answers."""

import unittest

from tests.lines import EDGES, TURN, answered, ask, cut, edge, edges, forward, last, needed, node, nodes, way
from tests.test_edges import full_graph
from waygraph.line import Line


class EdgeList(unittest.TestCase):

    def test_none(self):
        self.assertEqual(answered([EDGES, node(), EDGES]), [[0], [1], [0]])

    def test_in_the_order_in_which_they_came(self):
        triples = [(3, 5, 1), (1, 1, 2), (2, 4, 2), (1, 1, 1), (3, 1, 3)]
        flat = [number for triple in triples for number in triple]
        self.assertEqual(last(nodes(3) + edges(*triples) + [EDGES]), [5] + flat)

    def test_after_each(self):
        calls = nodes(2) + [edge(2, 1, 1), EDGES, edge(1, 2, 2), EDGES]
        self.assertEqual(last(calls, 4), [[1], [1, 2, 1, 1], [2], [2, 2, 1, 1, 1, 2, 2]])

    def test_cut(self):
        calls = nodes(2) + edges((1, 1, 2), (2, 1, 1), (2, 2, 2)) + [
            cut(2, 1, 1), EDGES, cut(1, 1, 2), EDGES, cut(2, 2, 2), EDGES]
        self.assertEqual(last(calls, 6), [[2], [2, 1, 1, 2, 2, 2, 2], [1], [1, 2, 2, 2], [0], [0]])

    def test_put_in_again_it_is_the_last(self):
        calls = nodes(2) + edges((1, 1, 2), (2, 1, 1), (2, 2, 2)) + [cut(1, 1, 2), edge(1, 1, 2), EDGES]
        self.assertEqual(last(calls), [3, 2, 1, 1, 2, 2, 2, 1, 1, 2])

    def test_refused_ones_are_not_there(self):
        calls = nodes(2) + edges((2, 1, 2), (1, 1, 2), (2, 1, 2), (1, 6, 2), (3, 1, 1)) + [cut(1, 1, 1), EDGES]
        self.assertEqual(last(calls), [2, 2, 1, 2, 1, 1, 2])

    def test_whatever_the_question(self):
        calls = nodes(2) + edges((2, 1, 2), (1, 2, 2)) + [
            ask(forward(2)), TURN, EDGES, way(2, 1), needed(2, 1), EDGES]
        self.assertEqual(last(calls, 4), [[2, 2, 1, 2, 1, 2, 2], [1, 5, 1], [1, 1, 2, 2], [2, 2, 1, 2, 1, 2, 2]])

    def test_all_forty(self):
        line = Line()
        line.graph = full_graph()[0]
        flat = [number for a in range(1, 6) for x in range(1, 9) for number in (x, a, x % 8 + 1)]
        self.assertEqual(line.edges(), [40] + flat)


if __name__ == "__main__":
    unittest.main()
