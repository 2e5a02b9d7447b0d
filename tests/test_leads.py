"""What ask and to answer, and promise 3 for to."""

import unittest

from tests.lines import (HIGHEST, STAY, again, answered, ask, backward, cut, edge, edges, either, forward, has,
                         in_order, kinds, last, node, nodes, of_kind, to)


def told(graph, code, count):
    """What ask answers, then what to answers for each of count nodes."""
    return last(graph + [ask(code)] + [to(x) for x in range(1, count + 1)], count + 1)


CHAIN = nodes(4) + edges((1, 1, 2), (2, 1, 3), (3, 1, 4))
RING = nodes(4) + edges((1, 1, 2), (2, 1, 3), (3, 1, 1))
FORK = nodes(4) + edges((1, 1, 2), (1, 2, 3), (2, 3, 4), (3, 1, 4))


class EachSort(unittest.TestCase):

    def test_stay(self):
        self.assertEqual(told(FORK, STAY, 4), [[4], [1, 1], [1, 2], [1, 3], [1, 4]])

    def test_forward(self):
        self.assertEqual(told(FORK, forward(1), 4), [[2], [1, 2], [0], [1, 4], [0]])

    def test_forward_to_several_rising(self):
        graph = nodes(4) + edges((2, 1, 4), (2, 1, 1), (2, 1, 3), (2, 1, 2))
        self.assertEqual(told(graph, forward(1), 4), [[4], [0], [4, 1, 2, 3, 4], [0], [0]])

    def test_backward(self):
        self.assertEqual(told(FORK, backward(1), 4), [[2], [0], [1, 1], [0], [1, 3]])

    def test_backward_from_several(self):
        graph = nodes(3) + edges((3, 2, 2), (1, 2, 2), (2, 2, 2), (2, 1, 3))
        self.assertEqual(told(graph, backward(2), 3), [[3], [0], [3, 1, 2, 3], [0]])

    def test_kind(self):
        graph = [node(1, 8), node(8), node(2)]
        self.assertEqual(told(graph, of_kind(8), 3), [[2], [1, 1], [1, 2], [0]])

    def test_in_order(self):
        self.assertEqual(told(FORK, in_order(forward(1), forward(3)), 4), [[1], [1, 4], [0], [0], [0]])

    def test_in_order_the_other_way_about(self):
        self.assertEqual(told(FORK, in_order(forward(3), forward(1)), 4), [[0], [0], [0], [0], [0]])

    def test_in_order_by_several_nodes_counts_a_pair_once(self):
        graph = nodes(4) + edges((1, 1, 2), (1, 1, 3), (2, 2, 4), (3, 2, 4), (3, 2, 1))
        self.assertEqual(told(graph, in_order(forward(1), forward(2)), 4), [[2], [2, 1, 4], [0], [0], [0]])

    def test_either(self):
        self.assertEqual(told(FORK, either(forward(1), forward(2)), 4), [[3], [2, 2, 3], [0], [1, 4], [0]])

    def test_either_of_the_same_counts_a_pair_once(self):
        self.assertEqual(told(FORK, either(forward(1), forward(1)), 4), [[2], [1, 2], [0], [1, 4], [0]])

    def test_has(self):
        self.assertEqual(told(FORK, has(forward(1)), 4), [[2], [1, 1], [0], [1, 3], [0]])

    def test_has_of_what_leads_to_several(self):
        graph = nodes(3) + edges((1, 1, 2), (1, 1, 3))
        self.assertEqual(told(graph, has(forward(1)), 3), [[1], [1, 1], [0], [0]])

    def test_again_and_again(self):
        self.assertEqual(told(CHAIN, again(forward(1)), 4),
                         [[10], [4, 1, 2, 3, 4], [3, 2, 3, 4], [2, 3, 4], [1, 4]])


class AgainAndAgain(unittest.TestCase):

    def test_what_leads_nowhere_stays(self):
        self.assertEqual(told(CHAIN, again(forward(5)), 4), [[4], [1, 1], [1, 2], [1, 3], [1, 4]])

    def test_over_a_ring(self):
        self.assertEqual(told(RING, again(forward(1)), 4),
                         [[10], [3, 1, 2, 3], [3, 1, 2, 3], [3, 1, 2, 3], [1, 4]])

    def test_backward_over_a_chain(self):
        self.assertEqual(told(CHAIN, again(backward(1)), 4),
                         [[10], [1, 1], [2, 1, 2], [3, 1, 2, 3], [4, 1, 2, 3, 4]])

    def test_over_a_ring_of_twelve_whatever_its_order(self):
        for stride in (1, 5, 7, 11):
            graph = nodes(12) + [edge(x, 2, (x - 1 + stride) % 12 + 1) for x in range(1, 13)]
            everywhere = [12] + list(range(1, 13))
            self.assertEqual(told(graph, again(forward(2)), 12), [[144]] + [everywhere] * 12)

    def test_over_a_chain_of_twelve_in_mixed_order(self):
        order = [7, 2, 12, 1, 9, 4, 11, 3, 8, 5, 10, 6]
        graph = nodes(12) + [edge(x, 1, y) for x, y in zip(order, order[1:])]
        answer = told(graph, again(forward(1)), 12)
        self.assertEqual(answer[0], [78])
        for place, x in enumerate(order):
            self.assertEqual(answer[x], [12 - place] + sorted(order[place:]))

    def test_of_two_steps(self):
        graph = nodes(6) + [edge(x, 1, x + 1) for x in range(1, 6)]
        self.assertEqual(last(graph + [ask(again(in_order(forward(1), forward(1)))), to(1), to(2), to(6)], 4),
                         [[12], [3, 1, 3, 5], [3, 2, 4, 6], [1, 6]])

    def test_of_two_steps_over_rings(self):
        twice = again(in_order(forward(1), forward(1)))
        odd = nodes(3) + edges((1, 1, 2), (2, 1, 3), (3, 1, 1))
        even = nodes(4) + edges((1, 1, 2), (2, 1, 3), (3, 1, 4), (4, 1, 1))
        self.assertEqual(told(odd, twice, 3), [[9]] + [[3, 1, 2, 3]] * 3)
        self.assertEqual(told(even, twice, 4), [[8], [2, 1, 3], [2, 2, 4], [2, 1, 3], [2, 2, 4]])

    def test_of_one_label_or_another(self):
        graph = nodes(4) + edges((1, 1, 2), (2, 2, 3), (3, 1, 4), (4, 3, 1))
        self.assertEqual(told(graph, again(either(forward(1), forward(2))), 4),
                         [[10], [4, 1, 2, 3, 4], [3, 2, 3, 4], [2, 3, 4], [1, 4]])

    def test_forward_and_backward(self):
        graph = nodes(5) + edges((1, 1, 2), (3, 1, 2), (4, 1, 5))
        self.assertEqual(told(graph, again(either(forward(1), backward(1))), 5),
                         [[13], [3, 1, 2, 3], [3, 1, 2, 3], [3, 1, 2, 3], [2, 4, 5], [2, 4, 5]])

    def test_by_nodes_of_a_kind_alone(self):
        graph = [node(), node(3), node(), node(3)] + edges((1, 1, 2), (2, 1, 3), (3, 1, 4), (2, 1, 4))
        self.assertEqual(told(graph, again(in_order(forward(1), of_kind(3))), 4),
                         [[8], [3, 1, 2, 4], [2, 2, 4], [2, 3, 4], [1, 4]])

    def test_by_nodes_that_have_a_way_on(self):
        graph = nodes(4) + edges((1, 1, 2), (2, 1, 3), (3, 1, 4), (1, 2, 4), (2, 2, 2))
        self.assertEqual(told(graph, again(in_order(has(forward(2)), forward(1))), 4),
                         [[7], [3, 1, 2, 3], [2, 2, 3], [1, 3], [1, 4]])

    def test_within_itself(self):
        self.assertEqual(told(RING, again(again(forward(1))), 4), told(RING, again(forward(1)), 4))

    def test_of_stay(self):
        self.assertEqual(told(RING, again(STAY), 4), [[4], [1, 1], [1, 2], [1, 3], [1, 4]])

    def test_two_behind_one_another(self):
        graph = nodes(4) + edges((1, 1, 2), (2, 2, 3), (3, 1, 4))
        self.assertEqual(told(graph, in_order(again(forward(1)), again(forward(2))), 4),
                         [[8], [3, 1, 2, 3], [2, 2, 3], [2, 3, 4], [1, 4]])


class Nested(unittest.TestCase):

    def test_has_within_has(self):
        self.assertEqual(told(CHAIN, has(in_order(forward(1), has(forward(1)))), 4), [[2], [1, 1], [1, 2], [0], [0]])

    def test_has_of_a_kind_farther_on(self):
        graph = [node(), node(), node(6), node()] + edges((1, 1, 2), (2, 1, 3), (3, 1, 4))
        self.assertEqual(told(graph, has(in_order(again(forward(1)), of_kind(6))), 4),
                         [[3], [1, 1], [1, 2], [1, 3], [0]])

    def test_either_of_two_orders(self):
        code = either(in_order(forward(1), forward(3)), in_order(forward(2), forward(1)))
        self.assertEqual(told(FORK, code, 4), [[1], [1, 4], [0], [0], [0]])

    def test_in_order_of_two_eithers(self):
        code = in_order(either(forward(1), forward(2)), either(STAY, forward(3)))
        self.assertEqual(told(FORK, code, 4), [[4], [3, 2, 3, 4], [0], [1, 4], [0]])

    def test_in_order_of_three_either_way_nested(self):
        one, two, three = forward(1), backward(1), forward(2)
        self.assertEqual(told(FORK, in_order(in_order(one, two), three), 4), [[1], [1, 3], [0], [0], [0]])
        self.assertEqual(told(FORK, in_order(one, in_order(two, three)), 4), [[1], [1, 3], [0], [0], [0]])

    def test_colleagues(self):
        # 1 wrote to 3, who works for 4 over 2 managers; 5 shares a room with 1.
        graph = nodes(5) + edges((1, 1, 3), (3, 2, 2), (2, 2, 4), (5, 3, 1))
        code = in_order(forward(3), in_order(forward(1), again(forward(2))))
        self.assertEqual(told(graph, code, 5), [[3], [0], [0], [0], [0], [3, 2, 3, 4]])


class Question(unittest.TestCase):

    def test_stay_before_the_first_ask(self):
        self.assertEqual(last([node(), node(), edge(1, 1, 2), to(1), to(2)], 2), [[1, 1], [1, 2]])

    def test_without_nodes(self):
        for code in (STAY, forward(1), backward(1), of_kind(1), in_order(STAY, STAY), either(STAY, STAY),
                     again(forward(1)), has(STAY)):
            self.assertEqual(answered([ask(code)]), [[0]])

    def test_a_new_one_takes_its_place(self):
        self.assertEqual(last(CHAIN + [ask(forward(1)), to(2), ask(backward(1)), to(2), ask(STAY), to(2)], 6),
                         [[3], [1, 3], [3], [1, 1], [4], [1, 2]])

    def test_nodes_that_come_behind_ask(self):
        self.assertEqual(answered([ask(again(forward(1))), to(1), node(), to(1), node(), to(2), edge(2, 1, 1), to(2)]),
                         [[0], [-1], [1], [1, 1], [2], [1, 2], [1], [2, 1, 2]])

    def test_kinds_that_change_behind_ask(self):
        self.assertEqual(answered([node(), ask(of_kind(4)), to(1), kinds(1, 4), to(1), kinds(1, 5), to(1), ask(of_kind(4))]),
                         [[1], [0], [0], [0], [1, 1], [0], [0], [0]])

    def test_edges_that_change_behind_ask(self):
        calls = nodes(3) + [ask(again(forward(1))), edge(1, 1, 2), to(1), edge(2, 1, 3), to(1), cut(1, 1, 2), to(1), to(2)]
        self.assertEqual(last(calls, 8), [[3], [1], [2, 1, 2], [2], [3, 1, 2, 3], [1], [1, 1], [2, 2, 3]])

    def test_asked_anew_for_the_graph_as_it_is(self):
        calls = nodes(2) + [ask(forward(1)), edge(1, 1, 2), ask(forward(1)), cut(1, 1, 2), ask(forward(1))]
        self.assertEqual(last(calls, 5), [[0], [1], [1], [0], [0]])


class To(unittest.TestCase):

    def test_a_node_that_is_not_there(self):
        for x in (0, 3, 12, 13, HIGHEST):
            with self.subTest(x):
                self.assertEqual(last(nodes(2) + [to(x), ask(forward(1)), to(x), to(2)], 4), [[-1], [0], [-1], [0]])

    def test_when_there_are_no_nodes(self):
        self.assertEqual(answered([to(0), to(1), to(HIGHEST)]), [[-1], [-1], [-1]])

    def test_the_thirteenth_of_twelve(self):
        self.assertEqual(last(nodes(12) + [to(1), to(12), to(13)], 3), [[1, 1], [1, 12], [-1]])

    def test_twice_is_the_same(self):
        self.assertEqual(last(RING + [ask(again(forward(1))), to(1), to(1)], 2), [[3, 1, 2, 3], [3, 1, 2, 3]])


if __name__ == "__main__":
    unittest.main()
