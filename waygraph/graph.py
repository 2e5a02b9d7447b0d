"""The graph: nodes with their kinds, and edges between them."""

from waygraph.limits import HIGHEST_KIND, HIGHEST_LABEL, MOST_EDGES, MOST_NODES
from waygraph.refusals import ABSENT, FULL, PRESENT, WRONG


def are_kinds(kinds):
    """Whether all are kinds and each is above the one before it."""
    before = 0
    for kind in kinds:
        if kind <= before or kind > HIGHEST_KIND:
            return False
        before = kind
    return True


class Graph:
    """Nodes and edges in the order in which they came; each change answers a number."""

    def __init__(self):
        self.node_kinds = []
        self.edge_list = []

    def has_node(self, x):
        return 1 <= x <= len(self.node_kinds)

    def add_node(self, kinds):
        if not are_kinds(kinds):
            return WRONG
        if len(self.node_kinds) == MOST_NODES:
            return FULL
        self.node_kinds.append(kinds)
        return len(self.node_kinds)

    def put_kinds(self, x, kinds):
        if not are_kinds(kinds) or not self.has_node(x):
            return WRONG
        self.node_kinds[x - 1] = kinds
        return 0

    def add_edge(self, x, a, y):
        if not self.has_node(x) or not self.has_node(y) or not 1 <= a <= HIGHEST_LABEL:
            return WRONG
        if (x, a, y) in self.edge_list:
            return PRESENT
        if len(self.edge_list) == MOST_EDGES:
            return FULL
        self.edge_list.append((x, a, y))
        return len(self.edge_list)

    def cut_edge(self, x, a, y):
        if (x, a, y) not in self.edge_list:
            return ABSENT
        self.edge_list.remove((x, a, y))
        return len(self.edge_list)
