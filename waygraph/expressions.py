"""Expressions, as their codes tell them.

A code is split into parts, in the order in which they stand. A part is a list: the number of
a sort of expression and, if it has one, the label or kind behind it.
"""

from waygraph.limits import HIGHEST_KIND, HIGHEST_LABEL, MOST_CODE

STAY = 0
FORWARD = 1
BACKWARD = 2
KIND = 3
IN_ORDER = 4
EITHER = 5
AGAIN = 6
HAS = 7


def codes_within(sort):
    """How many codes stand behind the number of this sort."""
    if sort in (IN_ORDER, EITHER):
        return 2
    if sort in (AGAIN, HAS):
        return 1
    return 0


def highest_number(sort):
    """The highest label or kind behind the number of this sort; 0 if neither stands there."""
    if sort in (FORWARD, BACKWARD):
        return HIGHEST_LABEL
    if sort == KIND:
        return HIGHEST_KIND
    return 0


def part_at(code, place):
    """The part that begins at place; None if there is none."""
    sort = code[place]
    if sort > HAS:
        return None
    highest = highest_number(sort)
    if highest == 0:
        return [sort]
    part = code[place:place + 2]
    if len(part) < 2 or not 1 <= part[1] <= highest:
        return None
    return part


def parts_of(code):
    """The parts of a code; None if the numbers are too many or aren't just one code."""
    if len(code) > MOST_CODE:
        return None
    parts = []
    place = 0
    wanted = 1
    while wanted > 0 and place < len(code):
        part = part_at(code, place)
        if part is None:
            return None
        parts.append(part)
        place = place + len(part)
        wanted = wanted - 1 + codes_within(part[0])
    if wanted > 0 or place < len(code):
        return None
    return parts


def code_of(parts):
    """The code of the expression that is told by parts."""
    code = []
    for part in parts:
        code.extend(part)
    return code


def folded(parts, of_plain, of_one, of_two):
    """What the expression that is told by parts comes to.

    of_plain(part) tells it for a part that has no codes within it, of_one(sort, within) and
    of_two(sort, first, second) for the others, from what the codes within them come to.
    """
    # From the end, the codes within an expression come ahead of it, the first of two last;
    # so a loop is enough, however deep they are nested.
    done = []
    for part in reversed(parts):
        sort = part[0]
        within = codes_within(sort)
        if within == 0:
            done.append(of_plain(part))
        elif within == 1:
            done.append(of_one(sort, done.pop()))
        else:
            first = done.pop()
            second = done.pop()
            done.append(of_two(sort, first, second))
    return done.pop()
