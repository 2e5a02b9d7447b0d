"""A refusal is a number alone, and leaves graph and question as they were."""

import unittest

from tests.lines import (EDGES, HIGHEST, STAY, TURN, again, ask, comes_from, cut, edge, either, forward, has, in_order,
                         kinds, last, needed, node, nodes, of_kind, to, way)

GRAPH = [node(1), node(2), node(1, 3), edge(1, 1, 2), edge(2, 1, 3), edge(3, 2, 3)]
QUESTION = again(either(forward(1), in_order(of_kind(3), has(forward(2)))))

REFUSED = [
    (node(9), -1),
    (node(2, 1), -1),
    (node(3, 3), -1),
    (kinds(1, 0), -1),
    (kinds(2, 3, 3), -1),
    (kinds(4, 1), -1),
    (kinds(0), -1),
    (edge(1, 6, 2), -1),
    (edge(1, 0, 3), -1),
    (edge(4, 1, 1), -1),
    (edge(1, 1, 0), -1),
    (edge(1, 1, 2), -4),
    (edge(3, 2, 3), -4),
    (cut(2, 1, 1), -3),
    (cut(1, 6, 2), -3),
    (cut(4, 1, 1), -3),
    (ask([]), -1),
    (ask([8]), -1),
    (ask([0, 0]), -1),
    (ask([1]), -1),
    (ask([1, 6]), -1),
    (ask([6] * 60 + [0]), -1),
    (to(0), -1),
    (to(4), -1),
    (to(HIGHEST), -1),
    (comes_from(0), -1),
    (comes_from(4), -1),
    (comes_from(HIGHEST), -1),
    (way(0, 1), -1),
    (way(1, 4), -1),
    (way(HIGHEST, HIGHEST), -1),
    (way(3, 1), -3),
    (needed(4, 1), -1),
    (needed(1, 0), -1),
    (needed(HIGHEST, 2), -1),
    (needed(2, 1), -3),
]


def looks():
    """Calls that show edges and question first, then all nodes and kinds, and how many edges and nodes there are."""
    calls = [EDGES, to(1), to(2), to(3), TURN]
    for code in [STAY, of_kind(1), of_kind(2), of_kind(3), forward(1), forward(2)]:
        calls.append(ask(code))
    return calls + [to(1), to(2), to(3), edge(3, 5, 1), node()]


SEEN = [[3, 1, 1, 2, 2, 1, 3, 3, 2, 3], [3, 1, 2, 3], [2, 2, 3], [1, 3], [10, 6, 5, 2, 1, 4, 7, 1, 2, 3, 3],
        [3], [2], [1], [1], [2], [1], [0], [0], [1, 3], [4], [4]]


class Refusals(unittest.TestCase):

    def test_what_is_seen_without_any(self):
        self.assertEqual(last(GRAPH + [ask(QUESTION)] + looks(), len(SEEN)), SEEN)

    def test_each_alone_leaves_all_as_it_was(self):
        for call, refusal in REFUSED:
            with self.subTest(call):
                calls = GRAPH + [ask(QUESTION), call] + looks()
                self.assertEqual(last(calls, len(SEEN) + 1), [[refusal]] + SEEN)

    def test_many_behind_one_another(self):
        room = 40 - len(GRAPH) - 1 - len(SEEN)
        for begin in range(0, len(REFUSED), room):
            some = REFUSED[begin:begin + room]
            calls = GRAPH + [ask(QUESTION)] + [call for call, _ in some] + looks()
            self.assertEqual(last(calls, len(SEEN) + len(some)), [[refusal] for _, refusal in some] + SEEN)

    def test_ask_refused_before_any_other_leaves_stay(self):
        self.assertEqual(last(nodes(2) + [edge(1, 1, 2), ask([1]), to(1), ask([1, 1, 0]), to(1)], 4),
                         [[-1], [1, 1], [-1], [1, 1]])

    def test_the_thirteenth_node_leaves_twelve(self):
        self.assertEqual(last(nodes(12) + [node(1), to(12), to(13), ask(of_kind(1)), ask(STAY)], 5),
                         [[-5], [1, 12], [-1], [0], [12]])


if __name__ == "__main__":
    unittest.main()
