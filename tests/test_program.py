"""What the document promises over the whole program, of all seven calls together."""

import contextlib
import importlib.util
import inspect
import io
import itertools
import random
import sys
import unittest

import notnought.grids

from reference import (
    LARGEST,
    Untouchable,
    copied,
    grid_row,
    polynomial_row,
    some_cases,
    some_terms,
    subsets_of,
)

PARAMETERS = {
    "coefficient": ["p", "n", "f", "t"],
    "somewhere": ["p", "n", "f", "g"],
    "summed": ["p", "n", "f", "g"],
    "sure": ["p", "n", "f", "g"],
    "sums": ["p", "a", "b"],
    "apart": ["p", "a"],
    "common": ["p", "n", "f", "h"],
}


def right_ones(source, turns):
    """What each parameter may be, all as told, so many times."""
    for p, n, terms, numbers in some_cases(source, turns):
        times = source.choice(list(terms)) if terms else [0] * n
        yield {
            "p": p,
            "n": n,
            "f": polynomial_row(terms),
            "h": polynomial_row(some_terms(source, p, n, 4, 3)),
            "t": list(times),
            "g": grid_row(numbers),
            "a": list(source.choice(subsets_of(p))),
            "b": list(source.choice(subsets_of(p))),
        }


def spoiled(source, given):
    """The same with one thing in it put wrong, mostly."""
    given = dict(given)
    name = source.choice(list(given))
    wrong = source.choice((0, 1, 4, 13, LARGEST))
    if isinstance(given[name], int):
        given[name] = wrong
    elif given[name]:
        row = list(given[name])
        row[source.randrange(len(row))] = wrong
        given[name] = row
    else:
        given[name] = [wrong] * source.choice((1, 400))
    return given


def some_calls(turns):
    """The name of a call and what is handed to it: each of the seven, right and spoiled."""
    source = random.Random(12)
    for given in right_ones(source, turns):
        for choice in (given, spoiled(source, given)):
            for name, parameters in PARAMETERS.items():
                yield name, [choice[parameter] for parameter in parameters]


def answer_to(name, handed):
    return getattr(notnought.grids, name)(*copied(handed, list))


class Program(unittest.TestCase):
    @classmethod
    def setUpClass(cls):
        cls.calls = list(some_calls(120))
        cls.answers = [answer_to(name, handed) for name, handed in cls.calls]

    def test_names_and_parameters(self):
        for name, parameters in PARAMETERS.items():
            call = getattr(notnought.grids, name)
            self.assertEqual(list(inspect.signature(call).parameters), parameters, name)

    def test_each_call_is_met_right_and_refused(self):
        met = {(name, answer[0] < 0) for (name, handed), answer in zip(self.calls, self.answers)}
        self.assertEqual(met, set(itertools.product(PARAMETERS, (False, True))))

    def test_each_answer_has_as_many_numbers_as_told(self):
        for (name, handed), answer in zip(self.calls, self.answers):
            self.assertIs(type(answer), list)
            self.assertEqual({type(number) for number in answer}, {int})
            if answer[0] < 0:
                self.assertIn(answer, ([-22], [-33]) if name == "somewhere" else ([-22],))
                continue
            self.assertGreaterEqual(min(answer), 0)
            if name in ("coefficient", "sure"):
                self.assertEqual(len(answer), 1)
            elif name == "summed":
                self.assertEqual(len(answer), 2)
            else:
                self.assertEqual(len(answer), 1 + answer[0])
            if name == "somewhere":
                self.assertEqual(answer[0], handed[1])
            if name in ("sums", "apart", "common"):
                self.assertEqual(answer[1:], sorted(set(answer[1:])))

    def test_a_second_call_answers_like_the_first(self):
        for (name, handed), answer in zip(self.calls, self.answers):
            self.assertEqual(answer_to(name, handed), answer, (name, handed))

    def test_calls_answer_alike_in_any_order(self):
        order = list(range(len(self.calls)))
        for turn in (order[::-1], random.Random(13).sample(order, len(order))):
            for k in turn:
                name, handed = self.calls[k]
                self.assertEqual(answer_to(name, handed), self.answers[k], (name, handed))

    def test_calls_answer_like_those_of_a_module_loaded_anew(self):
        for name in PARAMETERS:
            chosen = [k for k, (other, handed) in enumerate(self.calls) if other == name][:20]
            for k in chosen:
                fresh = importlib.util.module_from_spec(notnought.grids.__spec__)
                notnought.grids.__spec__.loader.exec_module(fresh)
                answer = getattr(fresh, name)(*copied(self.calls[k][1], list))
                self.assertEqual(answer, self.answers[k], self.calls[k])

    def test_nothing_handed_in_is_changed_for_a_while_either(self):
        for (name, handed), answer in zip(self.calls, self.answers):
            given = copied(handed, Untouchable)
            self.assertEqual(getattr(notnought.grids, name)(*given), answer)
            self.assertEqual(given, handed)

    def test_nothing_is_printed(self):
        with contextlib.redirect_stdout(io.StringIO()) as out, contextlib.redirect_stderr(io.StringIO()) as err:
            for name, handed in self.calls:
                answer_to(name, handed)
        self.assertEqual(out.getvalue() + err.getvalue(), "")

    def test_nothing_is_imported(self):
        before = set(sys.modules)
        for name, handed in self.calls:
            answer_to(name, handed)
        self.assertEqual(set(sys.modules), before)


if __name__ == "__main__":
    unittest.main()
