"""What holds of all calls together: their names and arguments, that nothing is kept, and that nothing handed in is changed."""

import builtins
import copy
import inspect
import pkgutil
import importlib
import random
import sys
import unittest
from unittest import mock

import exactraws
from exactraws import formats

from helper import F32, F64, T, as_bytes, q, u

INTERFACE = {
    "format_of": ("text",),
    "name": ("c",),
    "ends": ("c",),
    "good": ("c", "r"),
    "hand": ("c", "bits"),
    "worth": ("c", "r"),
    "order": ("c", "r", "d", "s"),
    "turn": ("c", "r", "f", "how"),
    "two": ("op", "c", "r", "d", "s", "f", "how"),
    "root": ("c", "r", "f", "how"),
    "put": ("a", "b", "f", "how"),
    "sum_of": ("f", "how", "weights", "numbers"),
    "table": ("c", "r", "xc", "yc", "f", "how", "xs", "ys"),
    "read": ("f", "how", "text"),
    "write": ("c", "r"),
    "short": ("c", "r"),
}

Q8 = q(8, 0)
TENTH = 0x3FB999999999999A

# Calls with their answers: each function with an ordinary answer and with each of its refusals.
CALLS = (
    ("format_of", [as_bytes("q16_12")], [0, 69644]),
    ("format_of", [as_bytes("q16_17")], [-6]),
    ("format_of", [[]], [-6]),
    ("name", [u(64, 10)], [0] + as_bytes("u64_10")),
    ("name", [-1], [-1]),
    ("ends", [F32], [0, 0xFF7FFFFF, 0x7F7FFFFF]),
    ("ends", [0], [-1]),
    ("good", [F64, 2 ** 63], [0, 0]),
    ("good", [5, 0], [-1]),
    ("hand", [F32, 0x7F800000], [0, 4, 0x7F7FFFFF]),
    ("hand", [T, 256], [-1]),
    ("worth", [q(8, 4), 248], [0, -1, 2]),
    ("worth", [T, 2], [-1]),
    ("order", [F64, TENTH, F32, 0x3DCCCCCD], [0, 1]),
    ("order", [F64, TENTH, F32, 0x80000000], [-1]),
    ("turn", [F64, TENTH, q(16, 8), 2], [0, 1, 26]),
    ("turn", [F64, TENTH, F32, 2], [-1]),
    ("two", [3, T, 1, Q8, 253, F32, 8], [0, 1, 0xBEAAAAAB]),
    ("two", [3, T, 1, Q8, 0, Q8, 0], [0, 6, 127]),
    ("two", [7, T, 1, Q8, 0, Q8, 0], [-1]),
    ("root", [Q8, 2, F64, 8], [0, 1, 0x3FF6A09E667F3BCD]),
    ("root", [Q8, 255, F64, 8], [0, 2, 0]),
    ("root", [Q8, 256, F64, 8], [-1]),
    ("put", [10 ** 400, 3, Q8, 12], [0, 5, 127]),
    ("put", [10 ** 700, 3, Q8, 12], [-1]),
    ("sum_of", [Q8, 0, [T, 1] * 64, [Q8, 255] * 64], [0, 0, 192]),
    ("sum_of", [Q8, 0, [], []], [0, 0, 0]),
    ("sum_of", [Q8, 0, [T, 1], [Q8]], [-1]),
    ("table", [Q8, 15, Q8, Q8, Q8, 0, [10, 20, 40], [0, 100, 20]], [0, 0, 50]),
    ("table", [Q8, 15, Q8, Q8, Q8, 0, [10, 10], [0, 100]], [-9]),
    ("table", [Q8, 15, Q8, Q8, Q8, 0, [10, 10], [0, 256]], [-1]),
    ("read", [F64, 8, as_bytes("1e-1")], [0, 1, TENTH]),
    ("read", [F64, 8, as_bytes("1/00x")], [-6, 4]),
    ("read", [F64, 8, as_bytes("1" * 65)], [-1]),
    ("write", [q(8, 4), 248], [0] + as_bytes("-0.5")),
    ("write", [q(8, 4), 256], [-1]),
    ("short", [F64, TENTH], [0] + as_bytes("1e-1")),
    ("short", [Q8, 1], [-9]),
    ("short", [Q8, 256], [-1]),
)


def refuse(*arguments, **more):
    raise RuntimeError("a list that was handed in is changed")


class Untouchable(list):
    """A list that can't be changed, not for a while either."""

    append = extend = insert = pop = remove = clear = sort = reverse = refuse
    __setitem__ = __delitem__ = __iadd__ = __imul__ = refuse


def call(word, arguments):
    return getattr(formats, word)(*arguments)


def values_at_the_top():
    """All that the package's files hold beside functions and classes."""
    found = {}
    for entry in pkgutil.iter_modules(exactraws.__path__):
        module = importlib.import_module("exactraws." + entry.name)
        for word, kept in vars(module).items():
            if not word.startswith("__") and not callable(kept):
                found[entry.name, word] = kept
    return found


class Interface(unittest.TestCase):
    def test_names_and_arguments(self):
        for word, arguments in INTERFACE.items():
            parameters = inspect.signature(getattr(formats, word)).parameters
            self.assertEqual(tuple(parameters), arguments, word)
            for parameter in parameters.values():
                self.assertIs(parameter.default, inspect.Parameter.empty, word)

    def test_every_function_is_called_here(self):
        self.assertEqual({word for word, arguments, answer in CALLS}, set(INTERFACE))

    def test_answers(self):
        for word, arguments, answer in CALLS:
            self.assertEqual(call(word, arguments), answer, (word, arguments))

    def test_answers_by_the_arguments_names(self):
        for word, arguments, answer in CALLS:
            self.assertEqual(getattr(formats, word)(**dict(zip(INTERFACE[word], arguments))), answer, (word, arguments))

    def test_lists_of_whole_numbers_are_given_back(self):
        for word, arguments, _ in CALLS:
            answer = call(word, arguments)
            self.assertIs(type(answer), list, word)
            self.assertEqual({type(number) for number in answer}, {int}, word)

    def test_what_was_handed_in_stays_as_it_was(self):
        for word, arguments, answer in CALLS:
            handed = copy.deepcopy(arguments)
            call(word, handed)
            self.assertEqual(handed, arguments, word)

    def test_what_was_handed_in_is_not_changed_for_a_while_either(self):
        for word, arguments, answer in CALLS:
            handed = [Untouchable(entry) if isinstance(entry, list) else entry for entry in arguments]
            self.assertEqual(call(word, handed), answer, (word, arguments))

    def test_one_list_handed_in_twice(self):
        entries = [Q8, 3, Q8, 4]
        self.assertEqual(formats.sum_of(Q8, 0, entries, entries), [0, 0, 25])
        self.assertEqual(entries, [Q8, 3, Q8, 4])
        points = [1, 5, 9]
        self.assertEqual(formats.table(Q8, 7, Q8, Q8, Q8, 0, points, points), [0, 0, 7])
        self.assertEqual(points, [1, 5, 9])

    def test_nothing_is_kept_from_call_to_call(self):
        before = copy.deepcopy(values_at_the_top())
        source = random.Random(1)
        calls = list(CALLS) * 5
        source.shuffle(calls)
        for word, arguments, answer in calls:
            given = call(word, arguments)
            self.assertEqual(given, answer, (word, arguments))
            # What is given back is the caller's: to change it changes no later answer.
            given += [99, 98]
            given[0] = 77
        self.assertEqual(values_at_the_top(), before)

    def test_it_prints_reads_and_imports_nothing(self):
        loaded = set(sys.modules)
        with mock.patch.object(builtins, "open", refuse), mock.patch.object(builtins, "print", refuse), \
                mock.patch.object(builtins, "input", refuse), mock.patch.object(builtins, "__import__", refuse):
            answers = [call(word, arguments) for word, arguments, _ in CALLS]
        self.assertEqual(answers, [answer for _, _, answer in CALLS])
        self.assertEqual(set(sys.modules), loaded)

    def test_few_calls_stand_within_one_another(self):
        # The longest of everything, with little room for nesting.
        greatest = 0x7FEFFFFFFFFFFFFF
        room = sys.getrecursionlimit()
        raws = list(range(256))
        sys.setrecursionlimit(len(inspect.stack(0)) + 40)
        try:
            answers = [
                len(formats.write(F64, 1)), len(formats.write(F64, greatest)), len(formats.short(F64, 2 ** 52)), formats.root(F64, 1, F64, 8)[0],
                formats.sum_of(F64, 8, [F64, 1] * 64, [F64, greatest] * 64)[0], formats.read(F64, 8, as_bytes("1" * 40 + "e-999"))[0],
                formats.table(q(16, 2), 999, u(8, 0), u(8, 0), F64, 8, raws, raws)[0], formats.put(10 ** 699, 10 ** 699 - 1, F64, 8)[0],
            ]
        finally:
            sys.setrecursionlimit(room)
        self.assertEqual(answers, [0 + 1 + 2 + 1074, 1 + 309, 24, 0, 0, 0, 0, 0])


if __name__ == "__main__":
    unittest.main()
