"""Twelve nodes, many edges and codes of just 60 numbers, beside the second reading of the document."""

import random
import unittest

from tests.lines import EDGES, ROUNDS, TURN, ask, comes_from, cut, edge, kinds, last, needed, node, nodes, to, way
from tests.model import Model, pairs, whole
from waygraph.line import Line

CODES = [
    [6] * 58 + [1, 1],
    [6, 4, 1, 1] * 14 + [6, 6, 1, 1],
    [6, 4, 1, 1, 6] * 11 + [6, 6, 6, 1, 1],
    [6] + [4] * 19 + [1, 1] * 20,
    [6] + [4, 1, 1] * 19 + [1, 2],
    [6] + [4, 6, 5, 1, 1, 2, 2] * 8 + [6, 1, 1],
    [6, 4, 7, 1, 1] * 9 + [4, 6, 1, 2] * 2 + [4, 1, 1, 6, 6, 2, 1],
    [4, 6, 1, 1, 4, 6, 1, 2] * 7 + [6, 6, 1, 1],
]


def ring_and_some(chance, count):
    """A ring of twelve by label 1, in mixed order, and some edges besides."""
    order = list(range(1, 13))
    chance.shuffle(order)
    triples = [(x, 1, y) for x, y in zip(order, order[1:] + order[:1])]
    while len(triples) < count:
        triple = (chance.randint(1, 12), chance.randint(1, 2), chance.randint(1, 12))
        if triple not in triples:
            triples.append(triple)
    return triples


def model_of(triples, code):
    model = Model()
    model.kinds = [[] for _ in range(12)]
    model.edges = list(triples)
    model.question = whole(code)
    return model


def line_of(triples, code):
    line = Line()
    for _ in range(12):
        line.graph.add_node([])
    for triple in triples:
        line.graph.add_edge(*triple)
    line.ask(code)
    return line


class Large(unittest.TestCase):

    def test_the_codes_have_just_60_numbers(self):
        for code in CODES:
            self.assertEqual(len(code), 60)
            self.assertIsNotNone(whole(code))

    def test_each_of_the_calls(self):
        for seed, code in enumerate(CODES):
            triples = ring_and_some(random.Random(seed), 14)
            model = model_of(triples, code)
            begin = nodes(12) + [edge(*triple) for triple in triples] + [ask(code)]
            first = [len(pairs(model.question, model.kinds, model.edges))]
            played = [(to(3), model.to(3)), (comes_from(11), model.comes_from(11)), (way(12, 1), model.way(12, 1)),
                      (needed(12, 1), model.needed(12, 1)), (ROUNDS, model.rounds()), (EDGES, model.all_edges()),
                      (TURN, model.turn()), (way(1, 12), model.way(1, 12)), (needed(1, 12), model.needed(1, 12)),
                      (cut(*triples[0]), model.cut(*triples[0])), (kinds(4, 1, 8), model.put_kinds(4, [1, 8])),
                      (node(), [-5]), (to(12), model.to(12))]
            calls = begin + [call for call, _ in played]
            self.assertEqual(len(calls), 40)
            with self.subTest(code):
                self.assertEqual(last(calls, len(played) + 1), [first] + [answer for _, answer in played])

    def test_forty_edges(self):
        # More edges than a line's calls can bring.
        for seed, code in enumerate(CODES):
            chance = random.Random(seed)
            triples = ring_and_some(chance, 40)
            model = model_of(triples, code)
            line = line_of(triples, code)
            with self.subTest(code):
                for x in range(1, 13):
                    self.assertEqual((line.led_to(x), line.led_from(x)), (model.to(x), model.comes_from(x)))
                    y = chance.randint(1, 12)
                    self.assertEqual(line.way(x, y), model.way(x, y))
                self.assertEqual(line.needed(5, y), model.needed(5, y))
                self.assertEqual((line.rounds(), line.edges()), (model.rounds(), model.all_edges()))

    def test_ways_to_every_node_on_a_ring(self):
        for seed, code in enumerate(CODES):
            triples = ring_and_some(random.Random(seed), 13)
            model = model_of(triples, code)
            line = line_of(triples, code)
            with self.subTest(code):
                for y in range(1, 13):
                    self.assertEqual([line.way(1, y), line.way(12, y)], [model.way(1, y), model.way(12, y)])

    def test_a_way_of_more_than_two_hundred_steps(self):
        triples = [(x, 1, x % 12 + 1) for x in range(1, 13)]
        code = [6] + [4, 1, 1] * 18 + [1, 1]
        steps = [number for step in range(1, 210) for number in (2, step % 12 + 1)]
        self.assertEqual(line_of(triples, code).way(1, 6), [209] + steps)
        self.assertEqual(model_of(triples, code).way(1, 6), [209] + steps)


if __name__ == "__main__":
    unittest.main()
