"""Each call that the document names is there, under its name, with its arguments."""

import inspect
import unittest

from exactrows import figures
from tests.examples import call, examples

CALLS = {
    "mean": ["kind", "x"],
    "moments": ["kind", "x"],
    "weigh": ["kind", "x", "w"],
    "quant": ["kind", "x", "fractions"],
    "sort": ["kind", "x"],
    "ranks": ["kind", "x"],
    "hist": ["kind", "x", "edges"],
    "most": ["kind", "x"],
    "cov": ["kind", "x", "y"],
    "covs": ["kind", "rows"],
    "corr": ["kind", "x", "y"],
    "line": ["kind", "x", "y"],
    "pairs": ["kind", "x", "y"],
    "again": ["stream", "first", "n", "m", "key"],
    "shuffle": ["stream", "first", "n", "key"],
}


class Interface(unittest.TestCase):
    def test_names_and_arguments(self):
        for name, arguments in CALLS.items():
            parameters = inspect.signature(getattr(figures, name)).parameters
            self.assertEqual(list(parameters), arguments, name)
            self.assertTrue(all(one.default is inspect.Parameter.empty for one in parameters.values()), name)

    def test_arguments_by_name(self):
        for name, args in examples():
            by_name = dict(zip(CALLS[name], args))
            self.assertEqual(getattr(figures, name)(**by_name), call(name, args), name)

    def test_each_call_is_among_the_examples(self):
        self.assertEqual({name for name, args in examples()}, set(CALLS))

    def test_the_first_number(self):
        for name, args in examples():
            first = call(name, args)[0]
            if name in ("sort", "ranks", "hist", "most", "pairs", "again", "shuffle"):
                self.assertIn(first, (0, -1, -2, -4), name)
            else:
                self.assertIn(first, (0, 16, 20, 24, 28, -1, -2, -4), name)

    def test_how_many_numbers_are_answered(self):
        lengths = {
            "mean": lambda kind, x: 2,
            "moments": lambda kind, x: 6,
            "weigh": lambda kind, x, w: 2,
            "quant": lambda kind, x, fractions: 1 + len(fractions) // 2,
            "sort": lambda kind, x: 1 + len(x),
            "ranks": lambda kind, x: 1 + len(x),
            "hist": lambda kind, x, edges: 1 + len(edges) - 1 + 3,
            "most": lambda kind, x: 4,
            "cov": lambda kind, x, y: 2,
            "covs": lambda kind, rows: 1 + len(rows) ** 2,
            "corr": lambda kind, x, y: 2,
            "line": lambda kind, x, y: 3,
            "pairs": lambda kind, x, y: 5,
            "again": lambda stream, first, n, m, key: 1 + m,
            "shuffle": lambda stream, first, n, key: 1 + n,
        }
        for name, args in examples():
            answer = call(name, args)
            self.assertEqual(len(answer), 1 if answer[0] < 0 else lengths[name](*args), name)
