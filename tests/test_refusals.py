"""Each call's refusals in the document's order: whatever else is wrong, the first one of them is told."""

import unittest
from itertools import combinations, product

from drawingsbetween.drawings import apart, arced, at, between, chart, even, fit, halves, slow, turned
from tests.making import ALL, MOST, drawing, ladder, signs, stroke

ORDER = (-1, -2, -6, -5, -4, -8, -3)
LONG = [97] * 65537
NAME = signs("mid")
A, M, C = [drawing(stroke(places=[(n, n)])) for n in (0, 5, 8)]
# By way of the middle one the arc leads beyond 999.
OUTWARD = {"a": drawing(stroke(places=[(999, 0)])), "b": drawing(stroke(places=[(999, 0)])),
           "c": drawing(stroke(places=[(-999, 0)]))}
NONE = ([], signs("drawing"), drawing(stroke("s"), stroke("s")))
NO_LADDER = ([], signs("chart"), signs("chart a 2/4\n"), signs(ladder(ALL[:33])))
UNFIT = drawing(stroke(), stroke("t"))
WRONG_NAME = [{"s": []}, {"s": signs("9")}, {"s": [97] * 17}]


def each(name, values):
    return [{name: value} for value in values]


TWO = {-2: each("a", [LONG]) + each("b", [LONG]), -6: each("a", NONE), -5: each("b", NONE),
       -8: each("a", [UNFIT]) + each("b", [UNFIT])}
PART = [{"q": 0}, {"q": 65}, {"p": 5}, {"p": MOST, "q": MOST}]
ONE = {-2: each("t", [LONG]), -6: each("t", NO_LADDER)}
# Of each call: what is handed in if nothing is wrong, and how each refusal comes about, in one way or another.
CALLS = (
    (fit, {"a": A, "b": C}, TWO),
    (apart, {"a": A, "b": C}, TWO),
    (between, {"p": 1, "q": 4, "a": A, "b": C, "s": NAME}, {-1: PART + WRONG_NAME, **TWO}),
    (halves, {"k": 1, "m": 2, "a": A, "b": C, "s": NAME},
     {-1: [{"k": 5}, {"m": 5}, {"k": MOST, "m": MOST}] + WRONG_NAME, **TWO}),
    (arced, {"p": 1, "q": 4, "a": A, "b": M, "c": C, "s": NAME},
     {-1: PART + WRONG_NAME, -2: TWO[-2] + each("c", [LONG]), -6: TWO[-6], -5: TWO[-5], -4: each("c", NONE),
      -8: TWO[-8] + each("c", [UNFIT]), -3: [OUTWARD]}),
    (chart, {"t": signs("chart a 1/2\n")}, ONE),
    (at, {"i": 0, "t": signs("chart a 1/2\n")}, {**ONE, -3: each("i", (1, 32, MOST))}),
    (turned, {"t": signs("chart a 1/2\n")}, ONE),
    (even, {"k": 3, "s": NAME}, {-1: each("k", (0, 33, MOST)) + WRONG_NAME}),
    (slow, {"k": 3, "e": 1, "s": NAME}, {-1: each("k", (0, 7, MOST)) + each("e", (2, MOST)) + WRONG_NAME}),
)


def spoiled(good, ways):
    """With all of these wrong at once; where two change one argument, the one that is told first stays."""
    given = dict(good)
    for way in reversed(ways):
        given.update(way)
    return given


class InTheirOrder(unittest.TestCase):
    def test_nothing_wrong(self):
        for call, good, _ in CALLS:
            self.assertGreaterEqual(call(**good)[0], 0, call)

    def test_each_some_and_all_of_them(self):
        for call, good, causes in CALLS:
            refusals = [number for number in ORDER if number in causes]
            self.assertEqual(len(refusals), len(causes))
            for count in range(1, len(refusals) + 1):
                for chosen in combinations(refusals, count):
                    self.first_is_told(call, good, chosen, causes)

    def first_is_told(self, call, good, chosen, causes):
        for ways in product(*[causes[number] for number in chosen]):
            answer = call(**spoiled(good, ways))
            self.assertEqual(answer[0], chosen[0], (call, chosen))
            more = {(fit, -8): 2, (chart, -6): 1}.get((call, chosen[0]), 0)
            self.assertEqual(len(answer), 1 + more, (call, chosen))


if __name__ == "__main__":
    unittest.main()
