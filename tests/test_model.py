"""Many lines, made by a fixed rule, compared with the document's words said once more."""

import random
import unittest

from tests.lines import (EDGES, HIGHEST, ROUNDS, TURN, answered, ask, comes_from, cut, edge, kinds, needed, node, to,
                         way)
from tests.model import Model, pairs

ALL_TWELVE = ["node", "kinds", "edge", "cut", "ask", "to", "from", "way", "needed", "turn", "round", "edges"]


def some_code(chance, room):
    """A code of at most room numbers."""
    if room < 3 or chance.random() < 0.15:
        sort = chance.choice([0, 1, 1, 1, 2, 2, 3]) if room > 1 else 0
        if sort == 0:
            return [0]
        return [sort, chance.randint(1, 3 if sort == 3 else 2)]
    sort = chance.choice([4, 4, 5, 5, 6, 6, 7])
    if sort >= 6:
        return [sort] + some_code(chance, room - 1)
    first = some_code(chance, chance.randint(1, room - 2))
    return [sort] + first + some_code(chance, room - 1 - len(first))


def code_of_steps(chance, room):
    """A code of at most room numbers that leads by many steps, if it leads anywhere."""
    if room < 8:
        return [chance.choice([1, 1, 2]), chance.choice([1, 1, 2])] if room > 1 else [0]
    sort = chance.choice([4, 4, 4, 4, 4, 5, 6, 6])
    if sort == 6:
        return [6] + code_of_steps(chance, room - 1)
    beside = chance.choice([[1, 1], [1, 1], [2, 1], [1, 2], [7, 1, 1], [6, 1, 2], [5, 1, 1, 2, 2]])
    rest = code_of_steps(chance, room - 1 - len(beside))
    return [sort] + (beside + rest if chance.random() < 0.5 else rest + beside)


def spoilt(chance, code):
    """A code, now and then with one number put in, taken out or changed."""
    code = list(code)
    how = chance.randint(0, 11)
    place = chance.randrange(len(code))
    if how == 0:
        code.insert(place, chance.randint(0, 9))
    elif how == 1:
        code.pop(place)
    elif how == 2:
        code[place] = chance.choice([0, 1, 5, 6, 7, 8, 9, HIGHEST])
    return code


def some_node(chance, count):
    return chance.choice([0, count + 1, HIGHEST]) if chance.random() < 0.04 else chance.randint(1, max(1, count))


def some_pair(chance, model):
    """Two nodes; mostly such that the question leads from one to the other, and that is another."""
    led = sorted(pairs(model.question, model.kinds, model.edges))
    away = [(x, y) for x, y in led if x != y]
    if led and chance.random() < 0.7:
        return chance.choice(away or led)
    return some_node(chance, len(model.kinds)), some_node(chance, len(model.kinds))


def some_kinds(chance):
    if chance.random() < 0.1:
        return [chance.randint(0, 9) for _ in range(chance.randint(1, 12))]
    return [kind for kind in (1, 2, 3, 8) if chance.random() < 0.5]


def play(chance, model, sort):
    """A call of this sort, as numbers, and what the model answers."""
    count = len(model.kinds)
    if sort == "node":
        those = some_kinds(chance)
        return node(*those), model.node(those)
    if sort == "kinds":
        x, those = some_node(chance, count), some_kinds(chance)
        return kinds(x, *those), model.put_kinds(x, those)
    if sort == "edge":
        triple = some_node(chance, count), chance.choice([1, 1, 1, 2, 2, 2, 5, 6]), some_node(chance, count)
        return edge(*triple), model.edge(*triple)
    if sort == "cut":
        triple = chance.choice(model.edges + [(1, 1, 1)])
        return cut(*triple), model.cut(*triple)
    if sort == "ask":
        make = chance.choice([some_code, code_of_steps])
        code = spoilt(chance, make(chance, chance.choice([3, 8, 20, 59, 60])))
        return ask(code), model.ask(code)
    return look(chance, model, sort)


def look(chance, model, sort):
    """The same for the calls that leave the graph as it is."""
    x, y = some_pair(chance, model)
    if sort == "to":
        return to(x), model.to(x)
    if sort == "from":
        return comes_from(y), model.comes_from(y)
    if sort == "way":
        return way(x, y), model.way(x, y)
    if sort == "needed":
        return needed(x, y), model.needed(x, y)
    if sort == "turn":
        return TURN, model.turn()
    if sort == "round":
        return ROUNDS, model.rounds()
    return EDGES, model.all_edges()


def some_sorts(chance):
    """Forty sorts of calls, nodes and edges first, with all twelve among them."""
    begin = ["node"] * chance.choice([0, 1, 2, 3, 5, 8, 12])
    begin += ["edge"] * chance.randint(0, 12)
    rest = [chance.choice(ALL_TWELVE + ["edge", "ask", "ask", "way", "way", "needed", "needed"])
            for _ in range(40 - len(begin) - len(ALL_TWELVE))]
    rest += ALL_TWELVE
    chance.shuffle(rest)
    return begin + rest


class AsTheModel(unittest.TestCase):

    def test_many_lines_with_all_twelve_calls(self):
        for seed in range(1200):
            chance = random.Random(seed)
            model = Model()
            sorts = some_sorts(chance)
            self.assertEqual((len(sorts), set(sorts)), (40, set(ALL_TWELVE)))
            played = [play(chance, model, sort) for sort in sorts]
            told = answered([call for call, _ in played])
            self.assertEqual(told, [answer for _, answer in played], f"seed {seed}")

    def test_every_way_and_every_needed_edge_in_small_graphs(self):
        for seed in range(400):
            chance = random.Random(seed)
            model = Model()
            begin = ["node"] * 3 + ["edge"] * chance.randint(3, 12) + ["ask"] + ["turn"] * chance.randint(0, 1)
            played = [play(chance, model, sort) for sort in begin]
            for x in (1, 2, 3):
                for y in (1, 2, 3):
                    played += [(way(x, y), model.way(x, y)), (needed(x, y), model.needed(x, y))]
            told = answered([call for call, _ in played])
            self.assertEqual(told, [answer for _, answer in played], f"seed {seed}")


if __name__ == "__main__":
    unittest.main()
