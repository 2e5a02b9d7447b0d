"""Calls, told as numbers, and their answers, taken apart again."""

from waygraph.questions import answers

HIGHEST = 4294967295

STAY = [0]


def forward(a):
    return [1, a]


def backward(a):
    return [2, a]


def of_kind(k):
    return [3, k]


def in_order(first, second):
    return [4] + first + second


def either(first, second):
    return [5] + first + second


def again(code):
    return [6] + code


def has(code):
    return [7] + code


def node(*kinds):
    return [0, len(kinds), *kinds]


def kinds(x, *those):
    return [1, x, len(those), *those]


def edge(x, a, y):
    return [2, x, a, y]


def cut(x, a, y):
    return [3, x, a, y]


def ask(code):
    return [4, len(code), *code]


def to(x):
    return [5, x]


def comes_from(y):
    return [6, y]


def way(x, y):
    return [7, x, y]


def needed(x, y):
    return [8, x, y]


TURN = [9]
ROUNDS = [10]
EDGES = [11]


def nodes(count):
    return [node() for _ in range(count)]


def edges(*triples):
    return [edge(*triple) for triple in triples]


def taken_apart(told):
    """The answer of each call, a list each."""
    apart = []
    place = 0
    while place < len(told):
        length = told[place]
        answer = told[place + 1:place + 1 + length]
        if length < 1 or len(answer) != length:
            raise AssertionError(f"an answer breaks off: {told}")
        apart.append(answer)
        place += 1 + length
    return apart


def answered(calls):
    """The answers of calls (a list each), a list each."""
    if not 1 <= len(calls) <= 40:
        raise AssertionError("a line has 1 to 40 calls")
    apart = taken_apart(answers([number for call in calls for number in call]))
    if len(apart) != len(calls):
        raise AssertionError(f"{len(calls)} calls, but {len(apart)} answers")
    return apart


def last(calls, count=1):
    """The answers of the last calls: of one by itself, of several a list."""
    apart = answered(calls)
    return apart[-1] if count == 1 else apart[-count:]
