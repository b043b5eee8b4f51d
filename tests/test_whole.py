"""Point 1 and the interface, over all functions: what comes back, what is left alone, how long it takes."""

import ast
import copy
import inspect
import pathlib
import time
import unittest

import partbook
from partbook import counts, errors, numbers, primes, tables
from plainly import LAST, ones_to, sample, samples, small_tables, turnable_samples, unit_to

PACKAGE = pathlib.Path(partbook.__file__).parent

INTERFACE = {
    numbers.parts: ["number"],
    numbers.prime_parts: ["number"],
    numbers.sign: ["number"],
    tables.product: ["one", "two"],
    tables.summed: ["table"],
    tables.taken_back: ["table"],
    tables.unit: ["size"],
    tables.turned: ["table"],
    primes.goes_by_primes: ["table"],
    primes.by_primes: ["table"],
    counts.signs: ["size"],
    counts.strange: ["size"],
    counts.gathered: ["table"],
    counts.ungathered: ["table"],
}
FROM_A_TABLE = [
    tables.summed, tables.taken_back, primes.by_primes, counts.gathered, counts.ungathered,
]
FROM_A_SIZE = [tables.unit, counts.signs, counts.strange]
ALLOWED_ROOT = "partbook"
# What would reach files, clocks or chance without an import.
REACHING_OUT = {"open", "input", "print", "exec", "eval", "compile", "hash", "id", "globals"}


def calls():
    """Each function that takes tables, with tables that it doesn't refuse."""
    tables_to_try = samples()
    for table in tables_to_try:
        for function in FROM_A_TABLE + [primes.goes_by_primes]:
            yield function, [table]
        yield tables.product, [table, sample(len(table), 4, 17)]
        yield tables.product, [table, ones_to(len(table))]
        yield tables.product, [table, unit_to(len(table))]
        yield tables.product, [unit_to(len(table)), table]
    for table in turnable_samples():
        yield tables.turned, [table]


def refused_calls():
    for function in FROM_A_TABLE + [primes.goes_by_primes, tables.turned]:
        yield function, [[]]
    yield tables.turned, [[2, 1, 1]]
    yield tables.turned, [[0]]
    yield tables.product, [[1, 2, 3], [4, 5]]
    yield tables.product, [[1, 2, 3], []]
    yield tables.product, [[], [1, 2, 3]]


class Interface(unittest.TestCase):
    def test_arguments(self):
        for function, names in INTERFACE.items():
            with self.subTest(function=function.__name__):
                self.assertEqual(list(inspect.signature(function).parameters), names)

    def test_called_by_the_names_of_the_arguments(self):
        self.assertEqual(tables.product(one=[1, 2], two=[3, 4]), [3, 10])
        self.assertEqual(tables.unit(size=2), [1, 0])
        self.assertEqual(tables.summed(table=[1, 2]), [1, 3])

    def test_where_the_functions_stand(self):
        for function in INTERFACE:
            module = inspect.getmodule(function)
            self.assertIs(getattr(module, function.__name__), function)


class WhatComesBack(unittest.TestCase):
    def assert_is_table(self, answer, size):
        self.assertIs(type(answer), list)
        self.assertEqual(len(answer), size)
        self.assertTrue(all(type(entry) is int for entry in answer))

    def test_tables_are_lists_of_whole_numbers_of_the_same_size(self):
        for function, values in calls():
            if function is primes.goes_by_primes:
                self.assertIs(type(function(*values)), bool)
            else:
                self.assert_is_table(function(*values), len(values[0]))
        for function in FROM_A_SIZE:
            for size in (1, 2, 3, 12, 1000, LAST):
                self.assert_is_table(function(size), size)

    def test_each_is_a_list_of_its_own(self):
        for function, values in calls():
            if function is not primes.goes_by_primes:
                first = function(*values)
                for value in values:
                    self.assertIsNot(first, value)
                kept = list(first)
                first[0] += 1
                first.append(5)
                self.assertEqual(function(*values), kept)

    def test_each_is_a_list_of_its_own_where_it_has_the_same_entries(self):
        for function, table in (
            (tables.summed, [0, 0, 0]), (tables.summed, [4]),
            (tables.taken_back, [0, 0, 0]), (tables.taken_back, [4]),
            (tables.turned, [1, 0, 0]), (tables.turned, [-1]), (tables.turned, [1]),
            (primes.by_primes, [1, 2, 3, 4, 5, 6]), (primes.by_primes, [1]),
            (counts.gathered, [0, 0]), (counts.gathered, [4]),
            (counts.ungathered, [0, 0]), (counts.ungathered, [4]),
        ):
            answer = function(table)
            self.assertEqual(answer, table)
            self.assertIsNot(answer, table)
            answer.append(9)
            self.assertEqual(function(table), answer[:-1])

    def test_tables_of_a_size_are_lists_of_their_own(self):
        for function in FROM_A_SIZE:
            for size in (1, 2, 12):
                first = function(size)
                kept = list(first)
                first[0] = 8
                first.append(8)
                self.assertEqual(function(size), kept)

    def test_one_table_handed_in_twice(self):
        table = [1, 2, 3, 4]
        answer = tables.product(table, table)
        self.assertEqual((answer, table), ([1, 4, 6, 12], [1, 2, 3, 4]))


class WhatIsLeftAlone(unittest.TestCase):
    def test_nothing_handed_in_is_changed(self):
        for function, values in calls():
            kept = copy.deepcopy(values)
            function(*values)
            self.assertEqual(values, kept, function.__name__)

    def test_small_tables_are_not_changed(self):
        for table in small_tables():
            kept = list(table)
            for function in FROM_A_TABLE + [primes.goes_by_primes]:
                function(table)
            tables.product(table, table)
            self.assertEqual(table, kept)

    def test_nothing_is_changed_by_a_refusal(self):
        for function, values in refused_calls():
            kept = copy.deepcopy(values)
            with self.assertRaises(errors.BookError):
                function(*values)
            self.assertEqual(values, kept, function.__name__)


class Time(unittest.TestCase):
    # A few seconds; on an ordinary machine each call needs a small part of one.
    SECONDS = 5

    def assert_soon(self, function, *values):
        start = time.perf_counter()
        function(*values)
        self.assertLess(time.perf_counter() - start, self.SECONDS, function.__name__)

    def test_a_thousand_and_beyond(self):
        for size in (1000, 1500):
            table = [1] + sample(size - 1, 100, size)
            other = sample(size, 100, size + 1)
            for function in FROM_A_TABLE + [primes.goes_by_primes, tables.turned]:
                self.assert_soon(function, table)
            self.assert_soon(primes.goes_by_primes, ones_to(size))
            self.assert_soon(tables.product, table, other)
            for function in FROM_A_SIZE:
                self.assert_soon(function, size)


class NoClockChanceOrFiles(unittest.TestCase):
    def trees(self):
        files = sorted(PACKAGE.glob("**/*.py"))
        self.assertGreaterEqual(len(files), 6)
        for file in files:
            yield file.name, ast.parse(file.read_text(encoding="utf-8"))

    def test_only_own_modules_are_imported(self):
        for name, tree in self.trees():
            for node in ast.walk(tree):
                self.assertNotIsInstance(node, ast.Import, name)
                if isinstance(node, ast.ImportFrom):
                    self.assertEqual(node.module.split(".")[0], ALLOWED_ROOT, name)

    def test_nothing_reaches_out(self):
        for name, tree in self.trees():
            used = {node.id for node in ast.walk(tree) if isinstance(node, ast.Name)}
            self.assertEqual(used & REACHING_OUT, set(), name)
            self.assertFalse([each for each in used if each.startswith("__")], name)

    def test_the_same_answers_again(self):
        table = [1] + sample(59, 100, 4)
        for function in FROM_A_TABLE + [tables.turned, primes.goes_by_primes]:
            self.assertEqual(function(table), function(list(table)))


if __name__ == "__main__":
    unittest.main()
