"""What turn answers, and the question then."""

import random
import unittest

from tests.lines import (ROUNDS, STAY, TURN, again, answered, ask, backward, comes_from, edge, edges, either, forward,
                         has, in_order, last, needed, node, nodes, of_kind, to, way)
from tests.model import code as code_of
from tests.model import turned, whole
from tests.test_model import code_of_steps, some_code


class Turned(unittest.TestCase):

    def turns(self, code, other):
        """The one is turned into the other, and the other into the one."""
        with self.subTest(code):
            told = answered([ask(code), TURN, TURN])
            self.assertEqual(told, [[0], [len(other)] + other, [len(code)] + code])

    def test_stay(self):
        self.turns(STAY, STAY)

    def test_forward_and_backward(self):
        for a in range(1, 6):
            self.turns(forward(a), backward(a))
            self.turns(backward(a), forward(a))

    def test_kind(self):
        for kind in range(1, 9):
            self.turns(of_kind(kind), of_kind(kind))

    def test_in_order_changes_its_two_about(self):
        self.turns(in_order(forward(1), of_kind(2)), in_order(of_kind(2), backward(1)))
        self.turns(in_order(STAY, backward(3)), in_order(forward(3), STAY))
        self.turns(in_order(forward(1), forward(2)), in_order(backward(2), backward(1)))

    def test_either_does_not(self):
        self.turns(either(forward(1), of_kind(2)), either(backward(1), of_kind(2)))
        self.turns(either(STAY, backward(3)), either(STAY, forward(3)))

    def test_again_and_again(self):
        self.turns(again(forward(4)), again(backward(4)))
        self.turns(again(again(in_order(STAY, forward(1)))), again(again(in_order(backward(1), STAY))))

    def test_has_stays_as_it_is(self):
        for code in (forward(1), backward(5), of_kind(3), in_order(forward(1), backward(2)),
                     either(forward(1), STAY), again(forward(2)), has(forward(1)),
                     again(in_order(forward(1), has(in_order(STAY, backward(2)))))):
            self.turns(has(code), has(code))

    def test_has_within_others(self):
        inner = has(in_order(forward(1), backward(2)))
        self.turns(in_order(inner, forward(3)), in_order(backward(3), inner))
        self.turns(either(inner, forward(3)), either(inner, backward(3)))
        self.turns(again(inner), again(inner))
        self.turns(in_order(forward(1), in_order(inner, forward(2))),
                   in_order(in_order(backward(2), inner), backward(1)))

    def test_nested_in_order(self):
        one, two, three = forward(1), backward(2), of_kind(3)
        self.turns(in_order(in_order(one, two), three), in_order(three, in_order(forward(2), backward(1))))
        self.turns(in_order(one, in_order(two, three)), in_order(in_order(three, forward(2)), backward(1)))
        self.turns(in_order(in_order(one, two), in_order(three, one)),
                   in_order(in_order(backward(1), three), in_order(forward(2), backward(1))))

    def test_in_order_and_either_within_one_another(self):
        self.turns(either(in_order(forward(1), forward(2)), in_order(forward(3), forward(4))),
                   either(in_order(backward(2), backward(1)), in_order(backward(4), backward(3))))
        self.turns(in_order(either(forward(1), forward(2)), either(forward(3), forward(4))),
                   in_order(either(backward(3), backward(4)), either(backward(1), backward(2))))

    def test_through_again_and_again(self):
        self.turns(in_order(again(in_order(forward(1), again(either(forward(2), STAY)))), forward(5)),
                   in_order(backward(5), again(in_order(again(either(backward(2), STAY)), backward(1)))))

    def test_many_codes(self):
        for seed in range(600):
            chance = random.Random(seed)
            code = chance.choice([some_code, code_of_steps])(chance, chance.choice([5, 12, 30, 60]))
            self.turns(code, code_of(turned(whole(code))))


class AtTheBeginning(unittest.TestCase):

    def test_stay(self):
        self.assertEqual(answered([TURN]), [[1, 0]])
        self.assertEqual(last(nodes(2) + [edge(1, 1, 2), TURN, to(1)], 2), [[1, 0], [1, 1]])

    def test_after_a_refused_ask(self):
        self.assertEqual(answered([ask([1]), TURN, ask(forward(2)), ask([0, 0]), TURN]),
                         [[-1], [1, 0], [0], [-1], [2, 2, 2]])


class Longest(unittest.TestCase):

    def turns(self, code, other):
        self.assertEqual(len(code), 60)
        self.assertEqual(answered([ask(code), TURN, TURN]), [[0], [60] + other, [60] + code])

    def test_just_60_numbers(self):
        self.turns([6] + [4, 1, 1] * 19 + [1, 2], [6] + [4] * 19 + [2, 2] + [2, 1] * 19)
        self.turns([6] + [5, 1, 1] * 19 + [1, 2], [6] + [5, 2, 1] * 19 + [2, 2])
        self.turns([6] + [4] * 19 + [1, 1] * 19 + [2, 3], [6] + [4, 1, 3] + [4, 2, 1] * 18 + [2, 1])

    def test_the_deepest_nesting(self):
        self.turns([6] * 59 + [0], [6] * 59 + [0])
        self.turns([6] * 58 + [1, 5], [6] * 58 + [2, 5])
        self.turns([7] * 58 + [1, 5], [7] * 58 + [1, 5])
        self.turns([6] * 57 + [7] + [1, 5], [6] * 57 + [7] + [1, 5])
        self.turns([6, 7] * 29 + [2, 1], [6, 7] * 29 + [2, 1])

    def test_in_order_nested_deepest(self):
        left = [6] + [4] * 29 + [0] * 29 + [0]
        right = [6] + [4, 0] * 29 + [0]
        self.turns(left, right)
        self.turns(right, left)


class TheQuestionThen(unittest.TestCase):

    GRAPH = [node(1), node(), node(2), node()] + edges((1, 1, 2), (2, 2, 3), (3, 1, 4), (2, 1, 4), (4, 3, 4))
    CODE = in_order(again(forward(1)), in_order(has(forward(2)), either(forward(2), forward(1))))

    def test_to_and_from_change_places(self):
        looks = [to(x) for x in range(1, 5)] + [comes_from(y) for y in range(1, 5)]
        calls = self.GRAPH + [ask(self.CODE)] + looks + [TURN] + looks
        told = last(calls, 17)
        self.assertEqual(told[:8], [[2, 3, 4], [2, 3, 4], [0], [0], [0], [0], [2, 1, 2], [2, 1, 2]])
        self.assertEqual(told[9:], told[4:8] + told[:4])

    def test_way(self):
        calls = self.GRAPH + [ask(self.CODE), way(1, 3), way(3, 1), TURN, way(1, 3), way(3, 1), TURN, way(1, 3)]
        told = last(calls, 7)
        self.assertEqual([told[0], told[1]], [[2, 2, 2, 4, 3], [-3]])
        self.assertEqual([told[3], told[4]], [[-3], [2, 5, 2, 3, 1]])
        self.assertEqual(told[6], told[0])

    def test_the_first_way_is_the_first_as_it_is_gone_then(self):
        # There it is 1 2 4 (by the lower node), back it is 4 3 1 (by the lower label).
        graph = nodes(4) + edges((1, 1, 2), (2, 2, 4), (1, 1, 3), (3, 1, 4))
        code = again(either(forward(1), forward(2)))
        self.assertEqual(last(graph + [ask(code), way(1, 4), TURN, way(4, 1)], 3),
                         [[2, 2, 2, 4, 4], [6, 6, 5, 2, 1, 2, 2], [2, 3, 3, 3, 1]])

    def test_needed_is_the_same_the_other_way_about(self):
        calls = self.GRAPH + [ask(self.CODE), needed(1, 3), TURN, needed(3, 1), needed(1, 3)]
        told = last(calls, 4)
        self.assertEqual([told[0], told[2], told[3]], [[2, 1, 1, 2, 2, 2, 3]] * 2 + [[-3]])

    def test_round_is_the_same(self):
        told = last(self.GRAPH + [ask(forward(3)), ROUNDS, TURN, ROUNDS], 3)
        self.assertEqual(told, [[1, 4], [2, 2, 3], [1, 4]])

    def test_as_many_pairs_when_it_is_asked(self):
        told = last(self.GRAPH + [ask(self.CODE), TURN])
        self.assertEqual(told[0], len(told) - 1)
        asked = last(self.GRAPH + [ask(self.CODE), ask(told[1:]), to(3), to(4)], 4)
        self.assertEqual(asked, [[4], [4], [2, 1, 2], [2, 1, 2]])

    def test_just_once_until_it_is_turned_again(self):
        calls = nodes(2) + [edge(1, 1, 2), ask(forward(1)), TURN, to(2), to(2), TURN, to(2), TURN, to(2)]
        self.assertEqual(last(calls, 7), [[2, 2, 1], [1, 1], [1, 1], [2, 1, 1], [0], [2, 2, 1], [1, 1]])

    def test_a_new_one_takes_its_place(self):
        calls = nodes(2) + [edge(1, 1, 2), ask(forward(1)), TURN, ask(forward(1)), to(1), TURN]
        self.assertEqual(last(calls, 3), [[1], [1, 2], [2, 2, 1]])

    def test_has_is_asked_as_before(self):
        calls = nodes(3) + edges((1, 1, 2), (2, 2, 3)) + [ask(in_order(forward(1), has(forward(2)))), TURN, to(2)]
        self.assertEqual(last(calls, 2), [[6, 4, 7, 1, 2, 2, 1], [1, 1]])


if __name__ == "__main__":
    unittest.main()
