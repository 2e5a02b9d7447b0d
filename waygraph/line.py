"""A line: one graph and one question to it."""

from waygraph.expressions import STAY, parts_of
from waygraph.graph import Graph
from waygraph.refusals import WRONG
from waygraph.relations import nodes_of, relation_of


class Line:
    """A new graph, without nodes, and the question stay."""

    def __init__(self):
        self.graph = Graph()
        self.question = [[STAY]]

    def relation(self):
        """Where the question leads in the graph as it is now."""
        return relation_of(self.question, self.graph.node_kinds, self.graph.edge_list)

    def ask(self, code):
        """How many pairs the code leads between, as a list of one number."""
        parts = parts_of(code)
        if parts is None:
            return [WRONG]
        self.question = parts
        return [sum([len(nodes_of(row)) for row in self.relation()])]

    def led_to(self, x):
        """To how many nodes the question leads from x, then these."""
        if not self.graph.has_node(x):
            return [WRONG]
        nodes = nodes_of(self.relation()[x - 1])
        return [len(nodes)] + nodes
