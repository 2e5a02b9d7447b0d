"""Promise 1: edge and cut."""

import unittest

from tests.lines import HIGHEST, answered, ask, backward, cut, edge, edges, forward, last, nodes, to
from waygraph.graph import Graph


def full_graph():
    """Eight nodes and 40 edges: more than the 40 calls of a line can bring."""
    graph = Graph()
    for _ in range(8):
        graph.add_node([])
    told = [graph.add_edge(x, a, x % 8 + 1) for a in range(1, 6) for x in range(1, 9)]
    return graph, told


class Edge(unittest.TestCase):

    def test_how_many_there_are_then(self):
        calls = nodes(3) + edges((1, 1, 2), (2, 1, 3), (3, 5, 1), (1, 2, 2), (2, 1, 1))
        self.assertEqual(last(calls, 5), [[1], [2], [3], [4], [5]])

    def test_it_leads_from_x_to_y_by_its_label_alone(self):
        for a in range(1, 6):
            for other in range(1, 6):
                calls = nodes(2) + [edge(1, a, 2), ask(forward(other)), to(1), to(2)]
                there = a == other
                told = [[1], [1, 2], [0]] if there else [[0], [0], [0]]
                self.assertEqual(last(calls, 3), told)

    def test_from_a_node_to_itself(self):
        calls = nodes(2) + [edge(2, 3, 2), ask(forward(3)), to(1), to(2), ask(backward(3)), to(2)]
        self.assertEqual(last(calls, 6), [[1], [1], [0], [1, 2], [1], [1, 2]])

    def test_nodes_that_are_not_there(self):
        for wrong in (0, 3, 12, 13, HIGHEST):
            with self.subTest(wrong):
                calls = nodes(2) + edges((wrong, 1, 1), (1, 1, wrong), (wrong, 1, wrong), (1, 1, 2))
                self.assertEqual(last(calls, 4), [[-1], [-1], [-1], [1]])

    def test_when_there_are_no_nodes(self):
        self.assertEqual(answered(edges((0, 1, 0), (1, 1, 1))), [[-1], [-1]])

    def test_labels_that_are_none(self):
        for wrong in (0, 6, 7, HIGHEST):
            with self.subTest(wrong):
                calls = nodes(2) + edges((1, wrong, 2), (1, wrong, 1), (1, 5, 2))
                self.assertEqual(last(calls, 3), [[-1], [-1], [1]])

    def test_the_first_and_the_last_that_may_be(self):
        calls = nodes(12) + edges((1, 1, 1), (12, 5, 12), (1, 5, 12), (12, 1, 1))
        self.assertEqual(last(calls, 4), [[1], [2], [3], [4]])

    def test_there_already(self):
        calls = nodes(2) + edges((1, 1, 2), (1, 1, 2), (2, 1, 1), (1, 2, 2), (1, 1, 1), (1, 1, 1), (1, 1, 2))
        self.assertEqual(last(calls, 7), [[1], [-4], [2], [3], [4], [-4], [-4]])

    def test_wrong_ahead_of_there_already(self):
        calls = nodes(1) + edges((1, 1, 1), (1, 6, 1), (2, 1, 1), (1, 1, 2))
        self.assertEqual(last(calls, 3), [[-1], [-1], [-1]])

    def test_as_many_as_one_line_can_bring(self):
        triples = [(x, a, y) for x in (1, 2, 3) for a in range(1, 6) for y in (1, 2, 3)][:37]
        self.assertEqual(last(nodes(3) + edges(*triples), 37), [[number] for number in range(1, 38)])


class Forty(unittest.TestCase):

    def test_all_forty_come(self):
        self.assertEqual(full_graph()[1], list(range(1, 41)))

    def test_the_forty_first_is_refused(self):
        graph = full_graph()[0]
        self.assertEqual([graph.add_edge(1, 1, 1), graph.add_edge(8, 5, 8)], [-5, -5])
        self.assertEqual(len(graph.edge_list), 40)

    def test_there_already_ahead_of_full(self):
        graph = full_graph()[0]
        self.assertEqual([graph.add_edge(1, 1, 2), graph.add_edge(8, 5, 1)], [-4, -4])

    def test_wrong_ahead_of_full(self):
        graph = full_graph()[0]
        self.assertEqual([graph.add_edge(1, 6, 1), graph.add_edge(9, 1, 1), graph.add_edge(1, 1, 9)], [-1] * 3)

    def test_a_cut_makes_room_for_one(self):
        graph = full_graph()[0]
        told = [graph.cut_edge(3, 2, 4), graph.add_edge(3, 2, 3), graph.add_edge(3, 2, 4)]
        self.assertEqual(told, [39, 40, -5])


class Cut(unittest.TestCase):

    def test_how_many_there_are_then(self):
        calls = nodes(2) + edges((1, 1, 2), (2, 1, 1), (1, 2, 2)) + [cut(2, 1, 1), cut(1, 1, 2), cut(1, 2, 2)]
        self.assertEqual(last(calls, 3), [[2], [1], [0]])

    def test_just_this_one_goes(self):
        calls = nodes(2) + edges((1, 1, 2), (1, 1, 1), (1, 2, 2), (2, 1, 2)) + [
            cut(1, 1, 2), ask(forward(1)), to(1), to(2), ask(forward(2)), to(1)]
        self.assertEqual(last(calls, 6), [[3], [2], [1, 1], [1, 2], [1], [1, 2]])

    def test_not_there(self):
        calls = nodes(2) + [edge(1, 1, 2), cut(2, 1, 1), cut(1, 2, 2), cut(1, 1, 1), cut(2, 2, 2), cut(1, 1, 2)]
        self.assertEqual(last(calls, 5), [[-3], [-3], [-3], [-3], [0]])

    def test_twice(self):
        self.assertEqual(last(nodes(2) + [edge(1, 1, 2), cut(1, 1, 2), cut(1, 1, 2)], 2), [[0], [-3]])

    def test_nodes_or_label_not_there(self):
        wrongs = [(0, 1, 1), (1, 1, 0), (3, 1, 1), (1, 1, 3), (1, 0, 2), (1, 6, 2), (0, 0, 0),
                  (HIGHEST, 1, 1), (1, HIGHEST, 2), (1, 1, HIGHEST), (HIGHEST, HIGHEST, HIGHEST)]
        calls = nodes(2) + [edge(1, 1, 2)] + [cut(*wrong) for wrong in wrongs] + [cut(1, 1, 2)]
        self.assertEqual(last(calls, len(wrongs) + 1), [[-3]] * len(wrongs) + [[0]])

    def test_when_there_is_nothing(self):
        self.assertEqual(answered([cut(1, 1, 1), cut(0, 0, 0)]), [[-3], [-3]])

    def test_put_in_again(self):
        calls = nodes(2) + [edge(1, 4, 2), edge(2, 4, 1), cut(1, 4, 2), ask(forward(4)), edge(1, 4, 2),
                            edge(1, 4, 2), ask(forward(4)), to(1), cut(1, 4, 2), to(1)]
        self.assertEqual(last(calls, 8), [[1], [1], [2], [-4], [2], [1, 2], [1], [0]])


if __name__ == "__main__":
    unittest.main()
