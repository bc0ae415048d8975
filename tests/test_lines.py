"""Lines of up to 30 calls, with all fourteen calls in any order and refusals among them, against the slow count."""

import unittest

from roundpowers.units import answers
from tests.slow import BIGGEST, KINDS, NUMBERS, slow_answers, taken_apart, written


class Row:
    """A fixed row of numbers that looks like any order: the same each time the tests are run."""

    def __init__(self, start):
        self.state = start

    def below(self, count):
        self.state = (self.state * 6364136223846793005 + 1442695040888963407) % 2 ** 64
        return (self.state >> 33) % count

    def one_of(self, choices):
        return choices[self.below(len(choices))]


def some_n(row):
    return row.one_of((row.below(300) + 1, row.one_of(KINDS), row.one_of((0, 301, BIGGEST)), row.below(30) + 1))


def some_number(row):
    return row.one_of((row.below(12), row.below(300), row.below(1000), row.below(BIGGEST + 1), BIGGEST, 0, 1))


def some_pairs(row):
    pairs = []
    for _ in range(row.one_of((0, 1, 2, 2, 2, 3, 3, 3, 4, 6))):
        pairs += [some_number(row), row.below(32) if row.below(3) == 0 else row.below(30) + 1]
    return pairs[1:] if pairs and row.below(8) == 0 else pairs


def some_call(row):
    name = row.one_of(tuple(NUMBERS))
    if name == "round":
        return (name, some_n(row))
    if name == "together":
        return (name, *some_pairs(row))
    if name in ("pow", "log", "roots"):
        return (name, some_number(row), some_number(row))
    if name in ("order", "inverse"):
        return (name, some_number(row))
    return (name,)


def some_line(row):
    calls = [some_call(row) for _ in range(row.below(30) + 1)]
    return [("round", row.one_of(KINDS))] + calls[1:] if row.below(2) == 0 else calls


class LinesTest(unittest.TestCase):
    def setUp(self):
        row = Row(17)
        self.lines = [some_line(row) for _ in range(600)]

    def test_the_lines_hold_every_call_and_refusal(self):
        seen = set()
        for line in self.lines:
            self.assertLessEqual(len(line), 30)
            self.assertLessEqual(len(written(line)), 420)
            for call, row in zip(line, slow_answers(line), strict=True):
                seen.add((call[0], min(row[0], 0)))
        refusals = {("round", -1), ("order", -6), ("log", -6), ("log", -3), ("roots", -1), ("together", -1),
                    ("together", -3), ("inverse", -6)}
        self.assertEqual(seen, {(name, 0) for name in NUMBERS} | refusals)

    def test_against_the_slow_count(self):
        for line in self.lines:
            self.assertEqual(taken_apart(answers(written(line))), slow_answers(line), line)

    def test_the_list_handed_in_is_as_it_was_and_asked_twice_it_answers_the_same(self):
        for line in self.lines:
            calls = written(line)
            first = answers(calls)
            self.assertEqual(calls, written(line))
            kept = list(first)
            first.clear()
            self.assertEqual(answers(calls), kept, line)
            self.assertEqual({type(number) for number in kept}, {int}, line)

    def test_the_longest_list(self):
        # 30 calls of together with 12 numbers each make 420 numbers.
        calls = written([("together",) + (BIGGEST, 30) * 6] * 30)
        self.assertEqual(len(calls), 420)
        self.assertEqual(answers(calls), [1, -1] * 30)

    def test_thirty_big_calls(self):
        for call in (("roots", BIGGEST, 1), ("roots", 1 << 31, 0), ("together", 28, 29, 29, 30, 22, 23),
                     ("inverse", 299)):
            line = [("round", 300)] + [call] * 29
            self.assertEqual(taken_apart(answers(written(line))), slow_answers(line), call)


if __name__ == "__main__":
    unittest.main()
