"""From which nodes to which an expression leads.

A relation is a list with a row for each node, in their order. A row is a whole number whose
bits are the nodes that are led to: the lowest bit is node 1, the next one node 2, and so on.
"""

from waygraph.expressions import AGAIN, FORWARD, IN_ORDER, KIND, STAY, folded


def bit_of(node):
    return 1 << (node - 1)


def nodes_of(row):
    """The nodes of a row, rising."""
    return [node for node in range(1, row.bit_length() + 1) if row & bit_of(node) != 0]


def stay(node_count):
    return [bit_of(node) for node in range(1, node_count + 1)]


def of_kind(node_kinds, kind):
    return [bit_of(node) if kind in kinds else 0 for node, kinds in enumerate(node_kinds, start=1)]


def steps(node_count, pairs):
    rows = [0] * node_count
    for x, y in pairs:
        rows[x - 1] = rows[x - 1] | bit_of(y)
    return rows


def reached_from(row, rows):
    """The row of all nodes to which rows lead from some node of row."""
    reached = 0
    for node in nodes_of(row):
        reached = reached | rows[node - 1]
    return reached


def in_order(first, second):
    return [reached_from(row, second) for row in first]


def either(first, second):
    return [one | other for one, other in zip(first, second)]


def joined_at(middle, rows):
    """Rows, and besides wherever they lead in two goes with the node middle between."""
    behind = rows[middle - 1]
    return [row | behind if row & bit_of(middle) != 0 else row for row in rows]


def again(rows):
    # However many goes stand one behind another, each node between two of them is the middle
    # once, and so they are joined into one.
    reached = either(stay(len(rows)), rows)
    for middle in range(1, len(rows) + 1):
        reached = joined_at(middle, reached)
    return reached


def has(rows):
    return [bit_of(node) if row != 0 else 0 for node, row in enumerate(rows, start=1)]


def pairs_by(part, edges):
    """From where to where each edge leads that the part, forward or backward, goes."""
    if part[0] == FORWARD:
        return [(x, y) for x, a, y in edges if a == part[1]]
    return [(y, x) for x, a, y in edges if a == part[1]]


def relation_of_plain(part, node_kinds, edges):
    """The relation of a part that has no codes within it."""
    if part[0] == STAY:
        return stay(len(node_kinds))
    if part[0] == KIND:
        return of_kind(node_kinds, part[1])
    return steps(len(node_kinds), pairs_by(part, edges))


def relation_of_one(sort, rows):
    if sort == AGAIN:
        return again(rows)
    return has(rows)


def relation_of_two(sort, first, second):
    if sort == IN_ORDER:
        return in_order(first, second)
    return either(first, second)


def relation_of(parts, node_kinds, edges):
    """The relation of the expression that is told by parts."""
    return folded(parts, lambda part: relation_of_plain(part, node_kinds, edges), relation_of_one, relation_of_two)


def has_pair(relation, x, y):
    return relation[x - 1] & bit_of(y) != 0
