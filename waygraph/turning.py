"""Expressions turned round.

On the way through an expression each one within it is kept twice, as a pair: its parts as they
are, and its parts turned round. A has around it takes the first, all others take the second.
"""

from waygraph.expressions import BACKWARD, FORWARD, HAS, IN_ORDER, folded


def turned_part(part):
    """A part that has no codes within it, turned round."""
    if part[0] == FORWARD:
        return [BACKWARD, part[1]]
    if part[0] == BACKWARD:
        return [FORWARD, part[1]]
    return part


def pair_of_plain(part):
    return ([part], [turned_part(part)])


def pair_of_one(sort, within):
    plain = [[sort]] + within[0]
    if sort == HAS:
        return (plain, plain)
    return (plain, [[sort]] + within[1])


def pair_of_two(sort, first, second):
    plain = [[sort]] + first[0] + second[0]
    if sort == IN_ORDER:
        return (plain, [[sort]] + second[1] + first[1])
    return (plain, [[sort]] + first[1] + second[1])


def turned(parts):
    """The parts of the expression turned round."""
    return folded(parts, pair_of_plain, pair_of_one, pair_of_two)[1]
