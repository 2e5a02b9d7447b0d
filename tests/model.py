"""The document's words said once more, over sets of pairs and nested tuples, to compare with."""

import heapq
import itertools


def read(code, place=0):
    """The expression at place as a nested tuple, and the place behind it; None if it isn't one."""
    if place >= len(code) or code[place] > 7:
        return None
    sort = code[place]
    if sort == 0:
        return (0,), place + 1
    if sort <= 3:
        if place + 1 >= len(code) or not 1 <= code[place + 1] <= (8 if sort == 3 else 5):
            return None
        return (sort, code[place + 1]), place + 2
    expression = (sort,)
    place += 1
    for _ in range(2 if sort <= 5 else 1):
        within = read(code, place)
        if within is None:
            return None
        expression += (within[0],)
        place = within[1]
    return expression, place


def whole(code):
    """The expression of a code; None if it's to be refused."""
    if len(code) > 60:
        return None
    found = read(code)
    return found[0] if found is not None and found[1] == len(code) else None


def pairs(expression, kinds, edges):
    """All (x, y) such that the expression leads from x to y."""
    sort = expression[0]
    stays = {(x, x) for x in range(1, len(kinds) + 1)}
    if sort == 0:
        return stays
    if sort == 1:
        return {(x, y) for x, a, y in edges if a == expression[1]}
    if sort == 2:
        return {(y, x) for x, a, y in edges if a == expression[1]}
    if sort == 3:
        return {(x, x) for x, x in stays if expression[1] in kinds[x - 1]}
    first = pairs(expression[1], kinds, edges)
    if sort == 4:
        return joined(first, pairs(expression[2], kinds, edges))
    if sort == 5:
        return first | pairs(expression[2], kinds, edges)
    if sort == 7:
        return {(x, x) for x, _ in first}
    reached = stays
    while joined(reached, first) - reached:
        reached = reached | joined(reached, first)
    return reached


def joined(first, second):
    behind = {}
    for y, z in second:
        behind.setdefault(y, []).append(z)
    return {(x, z) for x, y in first for z in behind.get(y, [])}


def turned(expression):
    sort = expression[0]
    if sort in (1, 2):
        return (3 - sort, expression[1])
    if sort == 4:
        return (4, turned(expression[2]), turned(expression[1]))
    if sort == 5:
        return (5, turned(expression[1]), turned(expression[2]))
    if sort == 6:
        return (6, turned(expression[1]))
    return expression


def code(expression):
    numbers = []
    for thing in expression:
        numbers += code(thing) if isinstance(thing, tuple) else [thing]
    return numbers


def shortest(expression, x, y, kinds, edges):
    """The steps of the shortest way from x to y; None if there's none.

    All ways are gone at once, from where they stand with what is still to go, always the shortest
    and first of them; so the first that comes to y with nothing still to go is the one.
    """
    tie = itertools.count()
    waiting = [(0, (), next(tie), x, (expression,))]
    gone = set()
    while waiting:
        length, steps, _, node, rest = heapq.heappop(waiting)
        if (node, rest) in gone:
            continue
        gone.add((node, rest))
        if not rest:
            if node == y:
                return steps
            continue
        for more, there, ahead in goes(rest[0], node, kinds, edges):
            heapq.heappush(waiting, (length + len(more), steps + more, next(tie), there, ahead + rest[1:]))
    return None


def goes(expression, node, kinds, edges):
    """How an expression can be begun at node: the step, if it is one, the node then, and what is to go then."""
    sort = expression[0]
    if sort == 0:
        return [((), node, ())]
    if sort == 1:
        return [(((2 * a, y),), y, ()) for x, a, y in edges if (x, a) == (node, expression[1])]
    if sort == 2:
        return [(((2 * a + 1, x),), x, ()) for x, a, y in edges if (y, a) == (node, expression[1])]
    if sort == 3:
        return [((), node, ())] if expression[1] in kinds[node - 1] else []
    if sort == 4:
        return [((), node, expression[1:])]
    if sort == 5:
        return [((), node, expression[1:2]), ((), node, expression[2:])]
    if sort == 6:
        return [((), node, ()), ((), node, (expression[1], expression))]
    return [((), node, ())] if any(x == node for x, _ in pairs(expression[1], kinds, edges)) else []


def flat(rows):
    """How many rows, then the numbers of each."""
    return [len(rows)] + [number for row in rows for number in row]


class Model:
    """A line's graph and question, with the same calls as the program's."""

    def __init__(self):
        self.kinds = []
        self.edges = []
        self.question = (0,)

    def there(self, x):
        return x in range(1, len(self.kinds) + 1)

    def node(self, kinds):
        if not good_kinds(kinds):
            return [-1]
        if len(self.kinds) >= 12:
            return [-5]
        self.kinds.append(kinds)
        return [len(self.kinds)]

    def put_kinds(self, x, kinds):
        if not good_kinds(kinds) or not self.there(x):
            return [-1]
        self.kinds[x - 1] = kinds
        return [0]

    def edge(self, x, a, y):
        if not self.there(x) or not self.there(y) or a not in range(1, 6):
            return [-1]
        if (x, a, y) in self.edges:
            return [-4]
        if len(self.edges) >= 40:
            return [-5]
        self.edges.append((x, a, y))
        return [len(self.edges)]

    def cut(self, x, a, y):
        if (x, a, y) not in self.edges:
            return [-3]
        self.edges.remove((x, a, y))
        return [len(self.edges)]

    def ask(self, code):
        expression = whole(code)
        if expression is None:
            return [-1]
        self.question = expression
        return [len(pairs(expression, self.kinds, self.edges))]

    def to(self, x):
        if not self.there(x):
            return [-1]
        found = sorted(y for w, y in pairs(self.question, self.kinds, self.edges) if w == x)
        return [len(found)] + found

    def leads(self, x, y, edges):
        return (x, y) in pairs(self.question, self.kinds, edges)

    def comes_from(self, y):
        if not self.there(y):
            return [-1]
        found = sorted(x for x, z in pairs(self.question, self.kinds, self.edges) if z == y)
        return [len(found)] + found

    def way(self, x, y):
        if not self.there(x) or not self.there(y):
            return [-1]
        steps = shortest(self.question, x, y, self.kinds, self.edges)
        return [-3] if steps is None else flat(steps)

    def needed(self, x, y):
        if not self.there(x) or not self.there(y):
            return [-1]
        if not self.leads(x, y, self.edges):
            return [-3]
        return flat([edge for edge in self.edges if not self.leads(x, y, [e for e in self.edges if e != edge])])

    def turn(self):
        self.question = turned(self.question)
        numbers = code(self.question)
        return [len(numbers)] + numbers

    def rounds(self):
        found = sorted(x for x, y in pairs(self.question, self.kinds, self.edges) if x == y)
        return [len(found)] + found

    def all_edges(self):
        return flat(self.edges)


def good_kinds(kinds):
    return kinds == sorted(set(kinds)) and set(kinds) <= set(range(1, 9))
