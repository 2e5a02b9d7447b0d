"""A line: one graph and one question to it."""

from waygraph.expressions import STAY, code_of, parts_of
from waygraph.graph import Graph
from waygraph.refusals import ABSENT, WRONG
from waygraph.relations import has_pair, nodes_of, relation_of
from waygraph.turning import turned
from waygraph.ways import ways_of


def counted(numbers):
    """How many numbers, then these."""
    return [len(numbers)] + numbers


def counted_edges(edges):
    """How many edges, then of each x, a, y."""
    told = [len(edges)]
    for edge in edges:
        told.extend(edge)
    return told


class Line:
    """A new graph, without nodes, and the question stay; each call answers a list of numbers."""

    def __init__(self):
        self.graph = Graph()
        self.question = [[STAY]]

    def has_nodes(self, x, y):
        return self.graph.has_node(x) and self.graph.has_node(y)

    def relation_by(self, edges):
        """Where the question would lead if these were the graph's edges."""
        return relation_of(self.question, self.graph.node_kinds, edges)

    def relation(self):
        """Where the question leads in the graph as it is now."""
        return self.relation_by(self.graph.edge_list)

    def is_needed(self, edge, x, y):
        """Whether the question wouldn't lead from x to y without this edge."""
        others = [other for other in self.graph.edge_list if other != edge]
        return not has_pair(self.relation_by(others), x, y)

    def ask(self, code):
        """How many pairs the code leads between."""
        parts = parts_of(code)
        if parts is None:
            return [WRONG]
        self.question = parts
        return [sum([len(nodes_of(row)) for row in self.relation()])]

    def led_to(self, x):
        if not self.graph.has_node(x):
            return [WRONG]
        return counted(nodes_of(self.relation()[x - 1]))

    def led_from(self, y):
        if not self.graph.has_node(y):
            return [WRONG]
        relation = self.relation()
        return counted([x for x in range(1, len(relation) + 1) if has_pair(relation, x, y)])

    def way(self, x, y):
        if not self.has_nodes(x, y):
            return [WRONG]
        found = ways_of(self.question, self.graph.node_kinds, self.graph.edge_list)[x - 1][y - 1]
        if found is None:
            return [ABSENT]
        return [len(found) // 2] + list(found)

    def needed(self, x, y):
        if not self.has_nodes(x, y):
            return [WRONG]
        if not has_pair(self.relation(), x, y):
            return [ABSENT]
        return counted_edges([edge for edge in self.graph.edge_list if self.is_needed(edge, x, y)])

    def turn(self):
        self.question = turned(self.question)
        return counted(code_of(self.question))

    def rounds(self):
        relation = self.relation()
        return counted([x for x in range(1, len(relation) + 1) if has_pair(relation, x, x)])

    def edges(self):
        return counted_edges(self.graph.edge_list)
