"""The shortest ways by which an expression leads.

A way is a tuple: of each step, the number for its label and the node to which it leads. A table
is a list with a row for each node, in their order; a row is a list that has, for each node, the
shortest way to it, or None if there is none.
"""

from waygraph.expressions import AGAIN, FORWARD, IN_ORDER, KIND, STAY, folded
from waygraph.relations import pairs_by


def shortest(one, other):
    """The shortest of two ways; None is no way."""
    if one is None:
        return other
    if other is None:
        return one
    if len(one) != len(other):
        return one if len(one) < len(other) else other
    # Of as many steps, tuples are compared as ways are: number by number from the beginning.
    return one if one <= other else other


def shortest_over(known, first, second):
    """The shortest of the way known and the way of first's steps and then second's."""
    if first is None or second is None:
        return known
    # Most ways that could be put together are too long, and needn't be.
    if known is not None and len(known) < len(first) + len(second):
        return known
    return shortest(known, first + second)


def no_ways(node_count):
    return [[None] * node_count for node in range(node_count)]


def staying(chosen):
    """The way without steps for each node that is chosen: True or False, in the nodes' order."""
    table = no_ways(len(chosen))
    for place, is_chosen in enumerate(chosen):
        if is_chosen:
            table[place][place] = ()
    return table


def stay(node_count):
    return staying([True] * node_count)


def steps(node_count, number, pairs):
    """A step for each of the pairs, with this number for its label."""
    table = no_ways(node_count)
    for x, y in pairs:
        table[x - 1][y - 1] = (number, y)
    return table


def row_in_order(row, table):
    """The shortest ways that go one of row's first, then one of the table's."""
    found = [None] * len(row)
    for first, behind in zip(row, table):
        if first is not None:
            found = [shortest_over(known, first, second) for known, second in zip(found, behind)]
    return found


def in_order(first, second):
    return [row_in_order(row, second) for row in first]


def row_either(row, other_row):
    return [shortest(one, other) for one, other in zip(row, other_row)]


def either(first, second):
    return [row_either(row, other_row) for row, other_row in zip(first, second)]


def joined_at(place, table):
    """The table's ways or, where they are shorter, two of them with the node at place between."""
    behind = table[place]
    joined = []
    for row in table:
        first = row[place]
        joined.append([shortest_over(known, first, second) for known, second in zip(row, behind)])
    return joined


def again(table):
    # Between its goes a shortest way needn't come to a node twice: what it goes from there and
    # back could be left out. So it is enough that each node is the middle once.
    found = either(stay(len(table)), table)
    for place in range(len(table)):
        found = joined_at(place, found)
    return found


def has_way(row):
    return any([way is not None for way in row])


def has(table):
    return staying([has_way(row) for row in table])


def number_of(part):
    """The number that a way tells for a step forward or backward."""
    if part[0] == FORWARD:
        return 2 * part[1]
    return 2 * part[1] + 1


def ways_of_plain(part, node_kinds, edges):
    """The table of a part that has no codes within it."""
    if part[0] == STAY:
        return stay(len(node_kinds))
    if part[0] == KIND:
        return staying([part[1] in kinds for kinds in node_kinds])
    return steps(len(node_kinds), number_of(part), pairs_by(part, edges))


def ways_of_one(sort, table):
    if sort == AGAIN:
        return again(table)
    return has(table)


def ways_of_two(sort, first, second):
    if sort == IN_ORDER:
        return in_order(first, second)
    return either(first, second)


def ways_of(parts, node_kinds, edges):
    """The table of the expression that is told by parts."""
    return folded(parts, lambda part: ways_of_plain(part, node_kinds, edges), ways_of_one, ways_of_two)
