"""Many lines, made by a fixed rule, compared with the document's words said once more."""

import random
import unittest

from tests.lines import HIGHEST, answered, ask, cut, edge, kinds, node, to
from tests.model import Model


def some_code(chance, room):
    """A code of at most room numbers."""
    if room < 3 or chance.random() < 0.15:
        sort = chance.choice([0, 1, 1, 1, 2, 2, 3]) if room > 1 else 0
        if sort == 0:
            return [0]
        return [sort, chance.randint(1, 3 if sort == 3 else 2)]
    sort = chance.choice([4, 4, 5, 5, 6, 6, 7])
    if sort >= 6:
        return [sort] + some_code(chance, room - 1)
    first = some_code(chance, chance.randint(1, room - 2))
    return [sort] + first + some_code(chance, room - 1 - len(first))


def spoilt(chance, code):
    """A code, now and then with one number put in, taken out or changed."""
    code = list(code)
    how = chance.randint(0, 11)
    place = chance.randrange(len(code))
    if how == 0:
        code.insert(place, chance.randint(0, 9))
    elif how == 1:
        code.pop(place)
    elif how == 2:
        code[place] = chance.choice([0, 1, 5, 6, 7, 8, 9, HIGHEST])
    return code


def some_node(chance, count):
    return chance.choice([0, count + 1, HIGHEST]) if chance.random() < 0.04 else chance.randint(1, max(1, count))


def some_kinds(chance):
    if chance.random() < 0.1:
        return [chance.randint(0, 9) for _ in range(chance.randint(1, 12))]
    return [kind for kind in (1, 2, 3, 8) if chance.random() < 0.5]


def play(chance, model, sort):
    """A call of this sort, as numbers, and what the model answers."""
    count = len(model.kinds)
    if sort == "node":
        those = some_kinds(chance)
        return node(*those), model.node(those)
    if sort == "kinds":
        x, those = some_node(chance, count), some_kinds(chance)
        return kinds(x, *those), model.put_kinds(x, those)
    if sort == "edge":
        triple = some_node(chance, count), chance.choice([1, 1, 1, 2, 2, 2, 5, 6]), some_node(chance, count)
        return edge(*triple), model.edge(*triple)
    if sort == "cut":
        triple = chance.choice(model.edges + [(1, 1, 1)])
        return cut(*triple), model.cut(*triple)
    if sort == "ask":
        code = spoilt(chance, some_code(chance, chance.choice([3, 8, 20, 59, 60])))
        return ask(code), model.ask(code)
    x = some_node(chance, count)
    return to(x), model.to(x)


def some_sorts(chance):
    begin = ["node"] * chance.choice([0, 1, 2, 3, 5, 8, 12])
    begin += ["edge"] * chance.randint(0, 20)
    rest = [chance.choice(["node", "kinds", "edge", "edge", "cut", "ask", "ask", "to", "to", "to"])
            for _ in range(40 - len(begin))]
    return begin + rest


class AsTheModel(unittest.TestCase):

    def test_many_lines(self):
        for seed in range(1500):
            chance = random.Random(seed)
            model = Model()
            played = [play(chance, model, sort) for sort in some_sorts(chance)]
            told = answered([call for call, _ in played])
            self.assertEqual(told, [answer for _, answer in played], f"seed {seed}")


if __name__ == "__main__":
    unittest.main()
