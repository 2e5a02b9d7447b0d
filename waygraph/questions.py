"""The calls on one line, told number by number, and their answers."""

from waygraph.line import Line


class Reader:
    """A list of numbers, read from its beginning and left as it is."""

    def __init__(self, numbers):
        self.numbers = numbers
        self.place = 0

    def more(self):
        return self.place < len(self.numbers)

    def number(self):
        self.place = self.place + 1
        return self.numbers[self.place - 1]

    def row(self):
        """The numbers behind their count, as a list of their own."""
        length = self.number()
        self.place = self.place + length
        return self.numbers[self.place - length:self.place]


def answer_node(line, reader):
    return [line.graph.add_node(reader.row())]


def answer_kinds(line, reader):
    x = reader.number()
    kinds = reader.row()
    return [line.graph.put_kinds(x, kinds)]


def answer_edge(line, reader):
    x = reader.number()
    a = reader.number()
    y = reader.number()
    return [line.graph.add_edge(x, a, y)]


def answer_cut(line, reader):
    x = reader.number()
    a = reader.number()
    y = reader.number()
    return [line.graph.cut_edge(x, a, y)]


def answer_ask(line, reader):
    return line.ask(reader.row())


def answer_to(line, reader):
    return line.led_to(reader.number())


def answer_comes_from(line, reader):
    return line.led_from(reader.number())


def answer_way(line, reader):
    x = reader.number()
    y = reader.number()
    return line.way(x, y)


def answer_needed(line, reader):
    x = reader.number()
    y = reader.number()
    return line.needed(x, y)


def answer_turn(line, reader):
    return line.turn()


def answer_rounds(line, reader):
    return line.rounds()


def answer_edges(line, reader):
    return line.edges()


# A call's number is its place here.
CALLS = (answer_node, answer_kinds, answer_edge, answer_cut, answer_ask, answer_to, answer_comes_from, answer_way,
         answer_needed, answer_turn, answer_rounds, answer_edges)


def answers(calls):
    """For each call, in order, how many numbers it answers, then these."""
    reader = Reader(calls)
    line = Line()
    told = []
    while reader.more():
        answer_call = CALLS[reader.number()]
        answer = answer_call(line, reader)
        told.append(len(answer))
        told.extend(answer)
    return told
