"""What the document promises over the whole program: the interface, and what holds for every function."""

import copy
import inspect
import sys
import unittest

from leastone import machines
from tests.by_words import listed_words, taken_words, told_machine
from tests.making import Numbers, Watched, blown_up, chain, listing, thrown_machine

CALLS = [
    ("least", 2, 3, [1, 2, 0, 1, 0, 2], [0, 1, 1]),
    ("least", 1, 64, *chain(1, 64, 0)),
    ("least", 16, 64, *thrown_machine(16, 64, 3)),
    ("least", 17, 1, [], []),
    ("least", 1, 2, [1, 2], [0, 1]),
    ("apart", 2, 2, 3, [0, 1, 1, 0], [0, 1], [0, 1, 1, 2, 2, 2], [0, 1, 1]),
    ("apart", 1, 64, 1, *chain(1, 64, 0), [0], [0]),
    ("apart", 16, 64, 64, *thrown_machine(16, 64, 3), *thrown_machine(16, 64, 3)),
    ("apart", 1, 1, 65, [], [], [], []),
    ("apart", 1, 1, 1, [0], [2], [0], [0]),
    ("test", 2, 3, 0, 36, [1, 0, 1, 2, 1, 0], [0, 0, 1]),
    ("test", 2, 3, 0, 35, [1, 0, 1, 2, 1, 0], [0, 0, 1]),
    ("test", 4, 12, 2, 2097152, *chain(4, 12, 3)),
    ("test", 2, 3, 0, 36, [1, 2, 0, 1, 0, 2], [0, 1, 1]),
    ("test", 1, 1, 3, 0, [], []),
]


def called(call, kind=list):
    name, *handed = call
    return getattr(machines, name)(*[kind(one) if isinstance(one, list) else one for one in handed])


def frames():
    return len(inspect.stack(0))


class Interface(unittest.TestCase):
    def test_names_and_arguments(self):
        for name, arguments in (
            ("least", ["k", "n", "rows", "takes"]),
            ("apart", ["k", "n", "m", "rows", "takes", "rows2", "takes2"]),
            ("test", ["k", "n", "more", "most", "rows", "takes"]),
        ):
            parameters = inspect.signature(getattr(machines, name)).parameters
            self.assertEqual(list(parameters), arguments)
            for parameter in parameters.values():
                self.assertEqual(parameter.kind, parameter.POSITIONAL_OR_KEYWORD)
                self.assertEqual(parameter.default, parameter.empty)


class EveryFunction(unittest.TestCase):
    def test_a_call_answers_the_same_whatever_was_called_before(self):
        alone = [called(call) for call in CALLS]
        for before in CALLS:
            for call, answer in zip(CALLS, alone):
                # What is done to an answer must not show in a later one.
                called(before).append(7)
                self.assertTrue(called(call) == answer, call)

    def test_the_file_keeps_nothing(self):
        kept = copy.deepcopy({name: value for name, value in vars(machines).items() if not name.startswith("__")})
        for call in CALLS:
            called(call, Watched)
        for name, value in kept.items():
            self.assertEqual(getattr(machines, name), value)
        self.assertEqual([name for name in vars(machines) if not name.startswith("__")], list(kept))
        for value in kept.values():
            if inspect.isfunction(value):
                self.assertEqual((value.__module__, vars(value)), ("leastone.machines", {}))
            else:
                self.assertIs(type(value), int)

    def test_few_calls_stand_within_one_another(self):
        lock = told_machine(4, machines.least(4, 12, *listing(4, {(3, 1, 2, 0, 1, 3, 3, 0, 2, 1)})))
        long_words = [
            ("least", 1, 64, *chain(1, 64, 0)),
            ("apart", 1, 64, 64, *chain(1, 64, 0), chain(1, 64, 0)[0], [0] * 64),
            ("test", 4, 12, 2, 2097152, *lock),
        ]
        usual = sys.getrecursionlimit()
        self.addCleanup(sys.setrecursionlimit, usual)
        for call in CALLS + long_words:
            sys.setrecursionlimit(frames() + 30)
            answer = called(call)
            sys.setrecursionlimit(usual)
            self.assertGreater(len(answer), 0)


class TheThreeTogether(unittest.TestCase):
    def test_what_least_gives_is_the_same_and_least(self):
        for k, n in ((1, 12), (2, 12), (3, 9), (4, 12)):
            for seed in range(10):
                rows, takes = thrown_machine(k, n, seed)
                answer = machines.least(k, n, rows, takes)
                size = answer[0]
                small = told_machine(k, answer)
                self.assertEqual(machines.apart(k, n, size, rows, takes, *small), [-1])
                self.assertGreater(machines.test(k, size, 0, 2097152, *small)[0], 0)
                if [n] + rows + takes != answer:
                    self.assertEqual(machines.test(k, n, 0, 2097152, rows, takes), [-3])

    def test_a_machine_with_few_more_states_that_differs_does_so_on_one_of_the_words(self):
        found = []
        for k, n in ((2, 5), (2, 10), (3, 4), (4, 10)):
            for seed in range(20):
                rows, takes = told_machine(k, machines.least(k, n, *thrown_machine(k, n, seed)))
                size = len(takes)
                # The same machine with two states more, but that one letter leads elsewhere from one state.
                other_rows, other_takes = blown_up(k, rows, takes, size + 2, seed)
                numbers = Numbers(seed)
                other_rows[numbers.below(k * (size + 2))] = numbers.below(size + 2)
                same = machines.apart(k, size, size + 2, rows, takes, other_rows, other_takes) == [-1]
                words = listed_words(machines.test(k, size, 2, 2097152, rows, takes))
                expected = taken_words(k, rows, takes, words)
                self.assertEqual(taken_words(k, other_rows, other_takes, words) == expected, same)
                found.append(same)
        self.assertEqual(set(found), {False, True})


if __name__ == "__main__":
    unittest.main()
