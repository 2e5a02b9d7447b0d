"""The document's words said once more, over sets of pairs and nested tuples, to compare with."""


def read(code, place=0):
    """The expression at place as a nested tuple, and the place behind it; None if it isn't one."""
    if place >= len(code) or code[place] > 7:
        return None
    sort = code[place]
    if sort == 0:
        return (0,), place + 1
    if sort <= 3:
        if place + 1 >= len(code) or not 1 <= code[place + 1] <= (8 if sort == 3 else 5):
            return None
        return (sort, code[place + 1]), place + 2
    expression = (sort,)
    place += 1
    for _ in range(2 if sort <= 5 else 1):
        within = read(code, place)
        if within is None:
            return None
        expression += (within[0],)
        place = within[1]
    return expression, place


def whole(code):
    """The expression of a code; None if it's to be refused."""
    if len(code) > 60:
        return None
    found = read(code)
    return found[0] if found is not None and found[1] == len(code) else None


def pairs(expression, kinds, edges):
    """All (x, y) such that the expression leads from x to y."""
    sort = expression[0]
    stays = {(x, x) for x in range(1, len(kinds) + 1)}
    if sort == 0:
        return stays
    if sort == 1:
        return {(x, y) for x, a, y in edges if a == expression[1]}
    if sort == 2:
        return {(y, x) for x, a, y in edges if a == expression[1]}
    if sort == 3:
        return {(x, x) for x, x in stays if expression[1] in kinds[x - 1]}
    first = pairs(expression[1], kinds, edges)
    if sort == 4:
        return joined(first, pairs(expression[2], kinds, edges))
    if sort == 5:
        return first | pairs(expression[2], kinds, edges)
    if sort == 7:
        return {(x, x) for x, _ in first}
    reached = stays
    while joined(reached, first) - reached:
        reached = reached | joined(reached, first)
    return reached


def joined(first, second):
    return {(x, z) for x, y in first for w, z in second if y == w}


class Model:
    """A line's graph and question, with the same calls as the program's."""

    def __init__(self):
        self.kinds = []
        self.edges = []
        self.question = (0,)

    def there(self, x):
        return x in range(1, len(self.kinds) + 1)

    def node(self, kinds):
        if not good_kinds(kinds):
            return [-1]
        if len(self.kinds) >= 12:
            return [-5]
        self.kinds.append(kinds)
        return [len(self.kinds)]

    def put_kinds(self, x, kinds):
        if not good_kinds(kinds) or not self.there(x):
            return [-1]
        self.kinds[x - 1] = kinds
        return [0]

    def edge(self, x, a, y):
        if not self.there(x) or not self.there(y) or a not in range(1, 6):
            return [-1]
        if (x, a, y) in self.edges:
            return [-4]
        if len(self.edges) >= 40:
            return [-5]
        self.edges.append((x, a, y))
        return [len(self.edges)]

    def cut(self, x, a, y):
        if (x, a, y) not in self.edges:
            return [-3]
        self.edges.remove((x, a, y))
        return [len(self.edges)]

    def ask(self, code):
        expression = whole(code)
        if expression is None:
            return [-1]
        self.question = expression
        return [len(pairs(expression, self.kinds, self.edges))]

    def to(self, x):
        if not self.there(x):
            return [-1]
        found = sorted(y for w, y in pairs(self.question, self.kinds, self.edges) if w == x)
        return [len(found)] + found


def good_kinds(kinds):
    return kinds == sorted(set(kinds)) and set(kinds) <= set(range(1, 9))
