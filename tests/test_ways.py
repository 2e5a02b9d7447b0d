"""What way answers: the shortest way, how it is told, and promise 3 for it."""

import unittest

from tests.lines import (HIGHEST, STAY, again, answered, ask, backward, cut, edge, edges, either, forward, has,
                         in_order, kinds, last, node, nodes, of_kind, way)


def told(graph, code, x, y):
    return last(graph + [ask(code), way(x, y)])


def chain(*codes):
    """The codes in order, one behind another."""
    return codes[0] if len(codes) == 1 else in_order(codes[0], chain(*codes[1:]))


ANY = either(forward(1), either(forward(2), forward(5)))


class WithoutSteps(unittest.TestCase):

    def test_stay(self):
        self.assertEqual(told(nodes(3), STAY, 2, 2), [0])

    def test_stay_at_the_beginning(self):
        self.assertEqual(last([node(), way(1, 1)]), [0])

    def test_kind(self):
        self.assertEqual(told([node(), node(3)], of_kind(3), 2, 2), [0])

    def test_has(self):
        self.assertEqual(told(nodes(2) + [edge(2, 1, 1)], has(forward(1)), 2, 2), [0])

    def test_again_and_again(self):
        self.assertEqual(told(nodes(2), again(forward(1)), 1, 1), [0])

    def test_again_and_again_though_there_is_a_ring(self):
        graph = nodes(2) + edges((1, 1, 1), (1, 1, 2), (2, 1, 1))
        self.assertEqual(told(graph, again(forward(1)), 1, 1), [0])
        self.assertEqual(told(graph, again(in_order(forward(1), forward(1))), 2, 2), [0])

    def test_several_behind_one_another(self):
        graph = [node(4)] + edges((1, 1, 1))
        self.assertEqual(told(graph, chain(of_kind(4), has(forward(1)), again(forward(1)), STAY), 1, 1), [0])

    def test_either_of_steps_and_none(self):
        graph = nodes(1) + edges((1, 1, 1))
        self.assertEqual(told(graph, either(forward(1), STAY), 1, 1), [0])
        self.assertEqual(told(graph, either(STAY, forward(1)), 1, 1), [0])


class OneStep(unittest.TestCase):

    def test_forward_tells_twice_its_label(self):
        for a in range(1, 6):
            self.assertEqual(told(nodes(2) + [edge(1, a, 2)], forward(a), 1, 2), [1, 2 * a, 2])

    def test_backward_tells_one_more(self):
        for a in range(1, 6):
            self.assertEqual(told(nodes(2) + [edge(1, a, 2)], backward(a), 2, 1), [1, 2 * a + 1, 1])

    def test_from_a_node_to_itself(self):
        graph = nodes(2) + [edge(2, 3, 2)]
        self.assertEqual(told(graph, forward(3), 2, 2), [1, 6, 2])
        self.assertEqual(told(graph, backward(3), 2, 2), [1, 7, 2])

    def test_just_the_node_that_is_asked_for(self):
        graph = nodes(12) + edges((3, 1, 1), (3, 1, 12), (3, 1, 7))
        for y in (1, 7, 12):
            self.assertEqual(told(graph, forward(1), 3, y), [1, 2, y])


class Fewest(unittest.TestCase):

    def test_of_several_the_one_with_the_fewest_steps(self):
        graph = nodes(3) + edges((1, 1, 2), (2, 1, 3), (1, 5, 3))
        two = in_order(forward(1), forward(1))
        self.assertEqual(told(graph, either(two, forward(5)), 1, 3), [1, 10, 3])
        self.assertEqual(told(graph, either(forward(5), two), 1, 3), [1, 10, 3])

    def test_fewest_goes_ahead_of_the_lower_number(self):
        graph = nodes(4) + edges((1, 1, 2), (2, 1, 3), (3, 1, 4), (1, 5, 3), (3, 5, 4))
        self.assertEqual(told(graph, again(ANY), 1, 4), [2, 10, 3, 2, 4])

    def test_fewest_in_all_though_its_first_part_is_longer(self):
        graph = nodes(6) + edges((1, 1, 2), (2, 2, 3), (3, 2, 4), (4, 2, 6), (2, 1, 5), (5, 2, 6))
        self.assertEqual(told(graph, in_order(again(forward(1)), again(forward(2))), 1, 6), [3, 2, 2, 2, 5, 4, 6])

    def test_fewest_steps_not_fewest_goes(self):
        graph = nodes(4) + edges((1, 1, 2), (2, 1, 3), (3, 1, 4), (1, 2, 3), (3, 2, 4))
        three = chain(forward(1), forward(1), forward(1))
        self.assertEqual(told(graph, again(either(three, forward(2))), 1, 4), [2, 4, 3, 4, 4])

    def test_over_a_higher_node_than_the_lowest(self):
        graph = nodes(9) + edges((1, 1, 2), (2, 1, 3), (3, 1, 4), (1, 1, 9), (9, 1, 4))
        self.assertEqual(told(graph, again(forward(1)), 1, 4), [2, 2, 9, 2, 4])

    def test_over_nodes_in_mixed_order(self):
        order = [7, 2, 12, 1, 9, 4, 11, 3, 8, 5, 10, 6]
        graph = nodes(12) + [edge(x, 1, y) for x, y in zip(order, order[1:])]
        steps = [number for y in order[1:] for number in (2, y)]
        self.assertEqual(told(graph, again(forward(1)), 7, 6), [11] + steps)
        back = [number for x in reversed(order[:-1]) for number in (3, x)]
        self.assertEqual(told(graph, again(backward(1)), 6, 7), [11] + back)


class First(unittest.TestCase):

    def both(self, graph, one, other, x, y, answer):
        """Whichever of the two stands first."""
        self.assertEqual(told(graph, either(one, other), x, y), answer)
        self.assertEqual(told(graph, either(other, one), x, y), answer)

    def test_the_lower_label(self):
        graph = nodes(2) + edges((1, 2, 2), (1, 1, 2), (1, 5, 2))
        self.both(graph, forward(2), forward(1), 1, 2, [1, 2, 2])
        self.both(graph, forward(2), forward(5), 1, 2, [1, 4, 2])

    def test_forward_ahead_of_backward_of_the_same_label(self):
        self.both(nodes(2) + edges((1, 1, 2), (2, 1, 1)), forward(1), backward(1), 1, 2, [1, 2, 2])

    def test_backward_ahead_of_forward_of_a_higher_label(self):
        self.both(nodes(2) + edges((1, 2, 2), (2, 1, 1)), forward(2), backward(1), 1, 2, [1, 3, 2])

    def test_the_lower_node_where_the_number_is_the_same(self):
        for first in (2, 3):
            graph = nodes(4) + edges((1, 1, first), (1, 1, 5 - first), (3, 1, 4), (2, 1, 4))
            self.assertEqual(told(graph, in_order(forward(1), forward(1)), 1, 4), [2, 2, 2, 2, 4])
            self.assertEqual(told(graph, again(forward(1)), 1, 4), [2, 2, 2, 2, 4])

    def test_the_number_ahead_of_the_node(self):
        graph = nodes(4) + edges((1, 2, 2), (2, 1, 4), (1, 1, 3), (3, 1, 4))
        self.assertEqual(told(graph, in_order(ANY, ANY), 1, 4), [2, 2, 3, 2, 4])
        self.assertEqual(told(graph, again(ANY), 1, 4), [2, 2, 3, 2, 4])

    def test_the_first_step_ahead_of_the_second(self):
        by_number = nodes(4) + edges((1, 1, 3), (3, 5, 4), (1, 2, 2), (2, 1, 4))
        by_node = nodes(4) + edges((1, 1, 3), (3, 1, 4), (1, 1, 2), (2, 5, 4))
        for code in (in_order(ANY, ANY), again(ANY)):
            self.assertEqual(told(by_number, code, 1, 4), [2, 2, 3, 10, 4])
            self.assertEqual(told(by_node, code, 1, 4), [2, 2, 2, 10, 4])

    def test_the_second_step_where_the_first_is_the_same(self):
        by_number = nodes(4) + edges((1, 1, 2), (2, 5, 3), (2, 2, 3))
        self.assertEqual(told(by_number, in_order(ANY, ANY), 1, 3), [2, 2, 2, 4, 3])
        by_node = nodes(5) + edges((1, 1, 2), (2, 1, 4), (2, 1, 3), (4, 1, 5), (3, 1, 5))
        self.assertEqual(told(by_node, again(ANY), 1, 5), [3, 2, 2, 2, 3, 2, 5])

    def test_the_last_step_alone_differs(self):
        graph = nodes(4) + edges((1, 1, 2), (2, 1, 3), (3, 5, 4), (3, 2, 4))
        self.assertEqual(told(graph, again(ANY), 1, 4), [3, 2, 2, 2, 3, 4, 4])

    def test_of_two_whose_parts_are_not_as_long_as_each_other(self):
        # Over 5 the first part has two steps and the second one; over 2 it is the other way about.
        graph = nodes(6) + edges((1, 2, 2), (2, 1, 3), (3, 1, 6), (1, 1, 4), (4, 2, 5), (5, 1, 6))
        code = in_order(either(forward(2), in_order(forward(1), forward(2))),
                        either(forward(1), in_order(forward(1), forward(1))))
        self.assertEqual(told(graph, code, 1, 6), [3, 2, 4, 4, 5, 2, 6])

    def test_the_numbers_not_their_signs(self):
        # 10 is above 2 and 4, and node 10 above 9.
        graph = nodes(11) + edges((1, 5, 2), (1, 2, 2), (1, 1, 10), (1, 1, 9), (9, 1, 11), (10, 1, 11))
        self.both(graph, forward(5), forward(2), 1, 2, [1, 4, 2])
        self.assertEqual(told(graph, in_order(forward(1), forward(1)), 1, 11), [2, 2, 9, 2, 11])


class Goes(unittest.TestCase):

    RING = nodes(5) + [edge(x, 1, x % 5 + 1) for x in range(1, 6)]

    def test_in_order(self):
        graph = nodes(3) + edges((1, 4, 2), (3, 5, 2))
        self.assertEqual(told(graph, in_order(forward(4), backward(5)), 1, 3), [2, 8, 2, 11, 3])

    def test_in_order_of_three_either_way_nested(self):
        graph = nodes(4) + edges((1, 1, 2), (2, 2, 3), (3, 3, 4))
        one, two, three = forward(1), forward(2), forward(3)
        answer = [3, 2, 2, 4, 3, 6, 4]
        self.assertEqual(told(graph, in_order(in_order(one, two), three), 1, 4), answer)
        self.assertEqual(told(graph, in_order(one, in_order(two, three)), 1, 4), answer)

    def test_either_where_just_one_leads(self):
        graph = nodes(2) + edges((1, 5, 2))
        self.assertEqual(told(graph, either(forward(1), forward(5)), 1, 2), [1, 10, 2])
        self.assertEqual(told(graph, either(forward(5), forward(1)), 1, 2), [1, 10, 2])

    def test_again_and_again_over_a_ring(self):
        self.assertEqual(told(self.RING, again(forward(1)), 3, 2), [4, 2, 4, 2, 5, 2, 1, 2, 2])

    def test_the_shorter_way_round_a_ring(self):
        code = again(either(forward(1), backward(1)))
        self.assertEqual(told(self.RING, code, 1, 4), [2, 3, 5, 3, 4])
        self.assertEqual(told(self.RING, code, 1, 3), [2, 2, 2, 2, 3])

    def test_goes_of_two_steps_over_an_odd_ring(self):
        steps = [2, 2, 2, 3, 2, 4, 2, 5, 2, 1, 2, 2]
        self.assertEqual(told(self.RING, again(in_order(forward(1), forward(1))), 1, 2), [6] + steps)

    def test_more_steps_than_nodes(self):
        # Goes of eleven steps on a ring of twelve: eleven goes from 1 to 2.
        graph = nodes(12) + [edge(x, 1, x % 12 + 1) for x in range(1, 13)]
        steps = [number for step in range(1, 122) for number in (2, step % 12 + 1)]
        self.assertEqual(told(graph, again(chain(*[forward(1)] * 11)), 1, 2), [121] + steps)

    def test_goes_that_have_no_steps(self):
        answer = [3, 2, 2, 2, 3, 2, 4]
        for code in (again(either(STAY, forward(1))), again(either(forward(1), STAY)), again(again(forward(1))),
                     again(either(has(forward(1)), forward(1))), again(in_order(STAY, forward(1))),
                     again(in_order(again(forward(2)), forward(1)))):
            with self.subTest(code):
                self.assertEqual(told(self.RING, code, 1, 4), answer)

    def test_no_steps_but_goes_that_have_none(self):
        for code in (again(STAY), again(has(forward(1))), again(again(STAY))):
            self.assertEqual(last(self.RING + [ask(code), way(1, 1), way(1, 2)], 2), [[0], [-3]])

    def test_again_and_again_within_again_and_again(self):
        # Over 1's as long as one likes, then one 2; and so on.
        graph = nodes(5) + edges((1, 1, 2), (2, 1, 3), (3, 2, 4), (4, 2, 5), (1, 2, 5), (5, 1, 1))
        code = again(in_order(again(forward(1)), forward(2)))
        self.assertEqual(told(graph, code, 2, 5), [3, 2, 3, 4, 4, 4, 5])
        self.assertEqual(told(graph, code, 5, 4), [4, 2, 1, 2, 2, 2, 3, 4, 4])

    def test_two_behind_one_another(self):
        graph = nodes(4) + edges((1, 1, 2), (2, 1, 3), (3, 2, 4), (4, 2, 1))
        self.assertEqual(told(graph, in_order(again(forward(1)), again(forward(2))), 2, 1), [3, 2, 3, 4, 4, 4, 1])

    def test_an_edge_gone_there_and_back(self):
        graph = nodes(2) + edges((1, 1, 2))
        self.assertEqual(told(graph, chain(forward(1), backward(1), forward(1)), 1, 2), [3, 2, 2, 3, 1, 2, 2])

    def test_kinds_on_the_way(self):
        graph = [node(), node(), node(8), node()] + edges((1, 1, 2), (2, 1, 4), (1, 1, 3), (3, 1, 4))
        self.assertEqual(told(graph, chain(forward(1), of_kind(8), forward(1)), 1, 4), [2, 2, 3, 2, 4])


class Has(unittest.TestCase):

    def test_it_adds_no_steps(self):
        graph = nodes(5) + edges((1, 1, 2), (2, 2, 4), (4, 2, 5), (2, 1, 3))
        code = chain(forward(1), has(in_order(forward(2), forward(2))), forward(1))
        self.assertEqual(told(graph, code, 1, 3), [2, 2, 2, 2, 3])

    def test_at_the_beginning_and_at_the_end(self):
        graph = nodes(3) + edges((1, 1, 2), (1, 2, 3), (2, 3, 3))
        self.assertEqual(told(graph, chain(has(forward(2)), forward(1), has(forward(3))), 1, 2), [1, 2, 2])

    def test_a_longer_way_where_the_shorter_one_has_not(self):
        graph = nodes(4) + edges((1, 1, 2), (2, 1, 3), (1, 1, 3), (2, 2, 2), (3, 1, 4))
        code = again(either(in_order(forward(1), has(forward(2))), in_order(has(forward(2)), chain(forward(1), forward(1)))))
        self.assertEqual(told(graph, code, 1, 4), [3, 2, 2, 2, 3, 2, 4])

    def test_within_has(self):
        graph = nodes(3) + edges((1, 1, 2), (2, 2, 3), (3, 2, 1))
        self.assertEqual(told(graph, in_order(has(in_order(forward(1), has(forward(2)))), forward(1)), 1, 2), [1, 2, 2])


class Refused(unittest.TestCase):

    def test_it_does_not_lead_there(self):
        graph = nodes(2) + [edge(1, 1, 2)]
        self.assertEqual(told(graph, forward(1), 2, 1), [-3])
        self.assertEqual(told(graph, forward(1), 1, 1), [-3])
        self.assertEqual(told(graph, STAY, 1, 2), [-3])
        self.assertEqual(told(graph, of_kind(1), 1, 1), [-3])
        self.assertEqual(told(graph, has(forward(1)), 2, 2), [-3])
        self.assertEqual(told(graph, in_order(forward(1), forward(1)), 1, 2), [-3])
        self.assertEqual(told(graph, again(forward(1)), 2, 1), [-3])

    def test_nodes_that_are_not_there(self):
        for wrong in (0, 3, 12, 13, HIGHEST):
            with self.subTest(wrong):
                calls = nodes(2) + [ask(forward(1)), way(wrong, 1), way(1, wrong), way(wrong, wrong), way(1, 2)]
                self.assertEqual(last(calls, 4), [[-1], [-1], [-1], [-3]])

    def test_when_there_are_no_nodes(self):
        self.assertEqual(answered([way(0, 0), way(1, 1)]), [[-1], [-1]])


class Changed(unittest.TestCase):

    def test_for_the_graph_as_it_is_then(self):
        calls = nodes(3) + [ask(again(in_order(forward(1), of_kind(2)))), edge(1, 1, 2), way(1, 2), kinds(2, 2),
                            way(1, 2), kinds(3, 2), edge(2, 1, 3), way(1, 3), edge(1, 1, 3), way(1, 3),
                            cut(1, 1, 2), way(1, 2), node(2), edge(3, 1, 4), way(1, 4)]
        self.assertEqual(last(calls, 14), [[1], [-3], [0], [1, 2, 2], [0], [2], [2, 2, 2, 2, 3], [3], [1, 2, 3],
                                           [2], [-3], [4], [3], [2, 2, 3, 2, 4]])

    def test_whatever_the_order_of_the_edges(self):
        triples = [(1, 1, 2), (1, 1, 3), (2, 1, 4), (3, 1, 4), (4, 2, 1)]
        for turn in range(5):
            graph = nodes(4) + edges(*triples[turn:], *triples[:turn])
            self.assertEqual(told(graph, again(ANY), 1, 4), [2, 2, 2, 2, 4])


if __name__ == "__main__":
    unittest.main()
