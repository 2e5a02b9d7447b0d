"""What the document promises over the whole program."""

import builtins
import contextlib
import io
import pathlib
import random
import subprocess
import sys
import unittest
from unittest import mock

from tests.lines import ROUNDS, TURN, ask, comes_from, edge, edges, needed, nodes, to, way
from tests.model import Model
from tests.test_large import CODES
from tests.test_model import play, some_sorts
from waygraph.questions import answers


PROJECT = pathlib.Path(__file__).resolve().parent.parent


def flat(calls):
    return [number for call in calls for number in call]


def some_lines(count):
    """Lines of 40 calls, all twelve among them, as they are handed in."""
    lines = []
    for seed in range(count):
        chance = random.Random(seed)
        model = Model()
        lines.append(flat([play(chance, model, sort)[0] for sort in some_sorts(chance)]))
    return lines


def depth():
    frame, count = sys._getframe(), 0
    while frame is not None:
        frame, count = frame.f_back, count + 1
    return count


class Whole(unittest.TestCase):

    LINES = some_lines(60)

    def test_the_list_stays_as_it_was(self):
        for line in self.LINES:
            handed = list(line)
            answers(handed)
            self.assertEqual(handed, line)

    def test_a_second_time_gives_the_same_as_the_first(self):
        first = [answers(line) for line in self.LINES]
        self.assertEqual([answers(line) for line in reversed(self.LINES)], first[::-1])

    def test_whole_numbers_alone_and_below_0_just_refusals(self):
        for line in self.LINES:
            told = answers(line)
            self.assertEqual({type(number) for number in told}, {int})
            for place, number in enumerate(told):
                if number < 0:
                    self.assertIn(number, (-1, -3, -4, -5))
                    self.assertEqual(told[place - 1], 1)

    def test_it_prints_reads_and_imports_nothing(self):
        first = [answers(line) for line in self.LINES]
        refuse = mock.Mock(side_effect=AssertionError("not asked for"))
        printed = io.StringIO()
        with contextlib.redirect_stdout(printed), contextlib.redirect_stderr(printed):
            with mock.patch.object(builtins, "open", refuse), mock.patch.object(builtins, "input", refuse), \
                    mock.patch.object(builtins, "__import__", refuse):
                told = [answers(line) for line in self.LINES]
        self.assertEqual(told, first)
        self.assertEqual(printed.getvalue(), "")

    def test_its_own_files_are_all_that_is_imported(self):
        script = ("import sys; before = set(sys.modules); import waygraph.questions; "
                  "sys.exit(any(name.split('.')[0] != 'waygraph' for name in set(sys.modules) - before))")
        done = subprocess.run([sys.executable, "-B", "-c", script], capture_output=True, check=False, cwd=PROJECT)
        self.assertEqual((done.returncode, done.stdout, done.stderr), (0, b"", b""))

    def test_nesting_is_gone_through_by_loops(self):
        deepest = [[6] * 58 + [1, 1], [7] * 58 + [1, 1], [4, 0] * 29 + [1, 1], [4] * 29 + [0] * 29 + [1, 1]]
        looks = [to(1), comes_from(2), way(1, 2), needed(1, 2), TURN, ROUNDS]
        for code in deepest + CODES:
            calls = flat(nodes(2) + edges((1, 1, 2), (2, 1, 1)) + [ask(code)] + looks)
            told = answers(calls)
            limit = sys.getrecursionlimit()
            sys.setrecursionlimit(depth() + 25)
            try:
                again = answers(calls)
            finally:
                sys.setrecursionlimit(limit)
            self.assertEqual(again, told)

    def test_a_line_of_nothing_but_long_calls(self):
        # Long enough to be felt, if it were gone through in vain.
        begin = nodes(12) + [edge(x, 1, x % 12 + 1) for x in range(1, 13)] + [ask(CODES[1])]
        told = answers(flat(begin + [needed(1, 12)] * 8 + [way(1, 12)] * 7))
        steps = flat([(2, y) for y in range(2, 13)])
        hangs = flat([(x, 1, x + 1) for x in range(1, 12)])
        self.assertEqual(told[-7 * 24 - 8 * 35:], ([34, 11] + hangs) * 8 + ([23, 11] + steps) * 7)


if __name__ == "__main__":
    unittest.main()
