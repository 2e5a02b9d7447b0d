"""What needed answers, and promise 3 for it."""

import unittest

from tests.lines import (EDGES, HIGHEST, ROUNDS, STAY, TURN, again, answered, ask, backward, comes_from, cut, edge,
                         edges, either, forward, has, in_order, kinds, last, needed, node, nodes, of_kind, to, way)


def told(graph, code, x, y):
    return last(graph + [ask(code), needed(x, y)])


DIAMOND = nodes(4) + edges((1, 1, 2), (2, 1, 4), (1, 1, 3), (3, 1, 4))


class Needed(unittest.TestCase):

    def test_none_for_a_way_without_steps(self):
        graph = [node(1), node()] + edges((1, 1, 1), (1, 1, 2), (2, 1, 1))
        for code in (STAY, of_kind(1), again(forward(1)), has(again(forward(1))), either(forward(1), STAY)):
            with self.subTest(code):
                self.assertEqual(told(graph, code, 1, 1), [0])

    def test_none_when_there_are_no_edges(self):
        self.assertEqual(last([node(), needed(1, 1)]), [0])

    def test_one(self):
        graph = nodes(3) + edges((1, 1, 3), (1, 1, 2), (1, 2, 2), (2, 1, 1))
        self.assertEqual(told(graph, forward(1), 1, 2), [1, 1, 1, 2])
        self.assertEqual(told(graph, backward(2), 2, 1), [1, 1, 2, 2])

    def test_several_in_the_order_in_which_they_came(self):
        for triples in ([(1, 1, 2), (2, 1, 3), (3, 1, 4)], [(3, 1, 4), (1, 1, 2), (2, 1, 3)],
                        [(2, 1, 3), (3, 1, 4), (1, 1, 2)], [(3, 1, 4), (2, 1, 3), (1, 1, 2)]):
            answer = [3] + [number for triple in triples for number in triple]
            self.assertEqual(told(nodes(4) + edges(*triples), again(forward(1)), 1, 4), answer)

    def test_one_that_was_cut_and_put_in_again_is_the_last(self):
        graph = nodes(3) + edges((1, 1, 2), (2, 1, 3)) + [cut(1, 1, 2), edge(1, 1, 2)]
        self.assertEqual(told(graph, again(forward(1)), 1, 3), [2, 2, 1, 3, 1, 1, 2])

    def test_told_as_the_edge_leads_though_it_is_gone_backward(self):
        graph = nodes(3) + edges((2, 4, 1), (3, 5, 2))
        self.assertEqual(told(graph, in_order(backward(4), backward(5)), 1, 3), [2, 2, 4, 1, 3, 5, 2])

    def test_all_that_the_way_has_and_no_others(self):
        graph = nodes(5) + edges((5, 1, 4), (1, 1, 2), (2, 2, 3), (2, 1, 5), (3, 1, 4), (1, 2, 4))
        code = in_order(forward(1), in_order(forward(2), forward(1)))
        self.assertEqual(told(graph, code, 1, 4), [3, 1, 1, 2, 2, 2, 3, 3, 1, 4])


class SideBySide(unittest.TestCase):

    def test_two_ways(self):
        self.assertEqual(told(DIAMOND, again(forward(1)), 1, 4), [0])
        self.assertEqual(told(DIAMOND, in_order(forward(1), forward(1)), 1, 4), [0])

    def test_two_labels(self):
        graph = nodes(2) + edges((1, 1, 2), (1, 2, 2))
        self.assertEqual(told(graph, either(forward(1), forward(2)), 1, 2), [0])
        self.assertEqual(told(graph, forward(2), 1, 2), [1, 1, 2, 2])

    def test_forward_and_backward(self):
        graph = nodes(2) + edges((1, 1, 2), (2, 1, 1))
        self.assertEqual(told(graph, either(forward(1), backward(1)), 1, 2), [0])

    def test_a_longer_one_beside_the_shortest(self):
        graph = nodes(3) + edges((1, 1, 3), (1, 1, 2), (2, 1, 3))
        self.assertEqual(told(graph, again(forward(1)), 1, 3), [0])

    def test_edges_that_both_ways_have(self):
        graph = DIAMOND[:4] + nodes(2) + edges((4, 1, 6)) + DIAMOND[4:] + edges((5, 1, 1))
        self.assertEqual(told(graph, again(forward(1)), 5, 6), [2, 4, 1, 6, 5, 1, 1])

    def test_an_edge_that_both_ways_have_at_different_places(self):
        # By 1 1 2 first, or last.
        graph = nodes(4) + edges((1, 1, 2), (2, 2, 2), (1, 2, 1))
        code = either(in_order(forward(1), forward(2)), in_order(forward(2), forward(1)))
        self.assertEqual(told(graph, code, 1, 2), [1, 1, 1, 2])

    def test_three_ways_of_which_two_have_an_edge(self):
        graph = nodes(5) + edges((1, 1, 2), (2, 1, 3), (2, 1, 4), (3, 1, 5), (4, 1, 5), (1, 1, 5))
        self.assertEqual(told(graph, again(forward(1)), 1, 5), [0])
        self.assertEqual(told(graph + [cut(1, 1, 5)], again(forward(1)), 1, 5), [1, 1, 1, 2])


class ByHas(unittest.TestCase):

    def test_has_alone(self):
        self.assertEqual(told(nodes(2) + [edge(1, 2, 2)], has(forward(2)), 1, 1), [1, 1, 2, 2])

    def test_no_step_of_the_way_goes_over_it(self):
        graph = nodes(4) + edges((2, 3, 4), (1, 2, 3), (1, 1, 2))
        code = in_order(has(forward(2)), in_order(forward(1), has(forward(3))))
        calls = graph + [ask(code), way(1, 2), needed(1, 2)]
        self.assertEqual(last(calls, 2), [[1, 2, 2], [3, 2, 3, 4, 1, 2, 3, 1, 1, 2]])

    def test_has_that_could_go_two_ways(self):
        graph = nodes(3) + edges((1, 2, 2), (1, 2, 3), (1, 1, 2))
        self.assertEqual(told(graph, in_order(has(forward(2)), forward(1)), 1, 2), [1, 1, 1, 2])

    def test_has_within_has(self):
        graph = nodes(4) + edges((1, 1, 2), (2, 2, 3), (3, 3, 4))
        code = has(in_order(forward(1), has(in_order(forward(2), has(forward(3))))))
        self.assertEqual(told(graph, code, 1, 1), [3, 1, 1, 2, 2, 2, 3, 3, 3, 4])

    def test_has_of_again_and_again_needs_none(self):
        graph = nodes(3) + edges((1, 1, 2), (2, 1, 3))
        self.assertEqual(told(graph, has(again(forward(1))), 1, 1), [0])

    def test_a_step_and_has_over_the_same_edge(self):
        graph = nodes(2) + edges((1, 1, 2))
        self.assertEqual(told(graph, in_order(has(forward(1)), forward(1)), 1, 2), [1, 1, 1, 2])


class Twice(unittest.TestCase):

    def test_there_and_back(self):
        graph = nodes(3) + edges((1, 1, 2), (2, 1, 3))
        self.assertEqual(told(graph, in_order(forward(1), in_order(backward(1), forward(1))), 1, 2), [1, 1, 1, 2])

    def test_twice_round_a_ring(self):
        graph = nodes(2) + edges((2, 1, 1), (1, 1, 2))
        two = in_order(forward(1), forward(1))
        self.assertEqual(told(graph, in_order(two, two), 1, 1), [2, 2, 1, 1, 1, 1, 2])

    def test_a_node_to_itself(self):
        graph = nodes(2) + edges((1, 1, 1), (2, 1, 2))
        self.assertEqual(told(graph, forward(1), 1, 1), [1, 1, 1, 1])
        self.assertEqual(told(graph, backward(1), 2, 2), [1, 2, 1, 2])
        self.assertEqual(told(graph, in_order(forward(1), in_order(forward(1), forward(1))), 1, 1), [1, 1, 1, 1])

    def test_a_node_to_itself_that_is_needed_on_the_way(self):
        graph = nodes(2) + edges((1, 1, 2), (2, 1, 2))
        self.assertEqual(told(graph, in_order(forward(1), forward(1)), 1, 2), [2, 1, 1, 2, 2, 1, 2])

    def test_two_nodes_to_themselves_side_by_side(self):
        graph = nodes(2) + edges((1, 1, 1), (1, 1, 2), (2, 1, 2))
        self.assertEqual(told(graph, in_order(forward(1), forward(1)), 1, 2), [1, 1, 1, 2])


class Refused(unittest.TestCase):

    def test_it_does_not_lead_there(self):
        graph = nodes(2) + [edge(1, 1, 2)]
        for code, x, y in ((forward(1), 2, 1), (forward(1), 1, 1), (STAY, 1, 2), (of_kind(1), 1, 1),
                           (has(forward(1)), 2, 2), (again(forward(1)), 2, 1)):
            with self.subTest(code):
                self.assertEqual(told(graph, code, x, y), [-3])

    def test_nodes_that_are_not_there(self):
        for wrong in (0, 3, 12, 13, HIGHEST):
            with self.subTest(wrong):
                calls = nodes(2) + [ask(forward(1)), needed(wrong, 1), needed(1, wrong), needed(wrong, wrong),
                                    needed(1, 2)]
                self.assertEqual(last(calls, 4), [[-1], [-1], [-1], [-3]])

    def test_when_there_are_no_nodes(self):
        self.assertEqual(answered([needed(0, 0), needed(1, 1)]), [[-1], [-1]])


class AsItWas(unittest.TestCase):

    LOOKS = [EDGES, ROUNDS, to(1), comes_from(3), way(1, 3), TURN, TURN, ask(forward(1)), ask(of_kind(2))]

    def test_graph_and_question_stay_as_they_were(self):
        graph = [node(2), node(), node(2)] + edges((2, 1, 3), (1, 1, 2), (3, 2, 3))
        code = in_order(again(forward(1)), has(forward(2)))
        calls = graph + [ask(code)]
        seen = last(calls + self.LOOKS, len(self.LOOKS))
        self.assertEqual(seen[0], [3, 2, 1, 3, 1, 1, 2, 3, 2, 3])
        for x, y in ((1, 3), (3, 3), (3, 1), (0, 1), (1, 2)):
            self.assertEqual(last(calls + [needed(x, y)] + self.LOOKS, len(self.LOOKS)), seen)

    def test_twice_is_the_same(self):
        calls = nodes(3) + edges((2, 1, 3), (1, 1, 2)) + [ask(again(forward(1))), needed(1, 3), needed(1, 3)]
        self.assertEqual(last(calls, 2), [[2, 2, 1, 3, 1, 1, 2]] * 2)

    def test_for_the_graph_as_it_is_then(self):
        calls = nodes(3) + [ask(again(in_order(forward(1), of_kind(2)))), edge(1, 1, 3), needed(1, 3), kinds(3, 2),
                            needed(1, 3), edge(1, 1, 2), edge(2, 1, 3), needed(1, 3), kinds(2, 2), needed(1, 3),
                            cut(1, 1, 3), needed(1, 3)]
        self.assertEqual(last(calls, 11), [[1], [-3], [0], [1, 1, 1, 3], [2], [3], [1, 1, 1, 3], [0], [0], [2],
                                           [2, 1, 1, 2, 2, 1, 3]])

    def test_just_the_edges_without_which_it_does_not_lead(self):
        triples = [(1, 1, 2), (2, 1, 3), (1, 1, 3), (3, 2, 4), (4, 1, 5), (4, 2, 4), (3, 1, 1)]
        code = in_order(again(forward(1)), in_order(forward(2), in_order(has(forward(2)), forward(1))))
        graph = nodes(5) + edges(*triples)
        hangs = [triple for triple in triples
                 if last(graph + [cut(*triple), ask(code), way(1, 5)]) == [-3]]
        self.assertEqual(hangs, [(3, 2, 4), (4, 1, 5), (4, 2, 4)])
        self.assertEqual(told(graph, code, 1, 5), [3, 3, 2, 4, 4, 1, 5, 4, 2, 4])


if __name__ == "__main__":
    unittest.main()
