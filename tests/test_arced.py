import unittest
from fractions import Fraction
from math import floor

from drawingsbetween.drawings import arced, between, fit
from tests.making import MOST, RIGHT_NAMES, WRONG_NAMES, drawing, ends, fill, greatest, is_drawing, is_nearest, named
from tests.making import numbers, paired, shaped, signs, stroke, text_of, told, unfit

NONE = signs("no drawing")
MID = signs("mid")
PARTS = [(p, q) for q in range(1, 65) for p in range(q + 1)]


def way(p, q, x, m, u):
    """What is to be divided by q q."""
    return (q - p) * (q - 2 * p) * x + 4 * p * (q - p) * m + p * (2 * p - q) * u


def three(values, spots):
    """Three that fit, with each three of the values and of the spots."""
    numbers_of = [[trio[i] for trio in [(x, m, u) for x in values for m in values for u in values]] for i in range(3)]
    spots_of = [[trio[i] for trio in [(x, m, u) for x in spots for m in spots for u in spots]] for i in range(3)]
    return [shaped(name, *both) for name, *both in zip(("one", "way", "two"), numbers_of, spots_of)]


class Arced(unittest.TestCase):
    def shapes(self):
        """A number at each stand that it can have in a stroke."""
        yield lambda n: [(n, 0)]
        yield lambda n: [(0, n)]
        yield lambda n: [(7, 7), (n, n), (8, 8)]

    def check(self, p, q, x, m, u, expected):
        """A number on its way, from both ends; None: it isn't there."""
        for places in self.shapes():
            a, b, c = [drawing(stroke(places=places(n)), name=name) for n, name in ((x, "a"), (m, "m"), (u, "b"))]
            answer = [-3] if expected is None else told(drawing(stroke(places=places(expected)), name="mid"))
            self.assertEqual(arced(p, q, a, b, c, MID), answer, (p, q, x, m, u))
            self.assertEqual(arced(q - p, q, c, b, a, MID), answer, (p, q, x, m, u))

    def check_fill(self, p, q, x, m, u, expected, width=10, height=10):
        """A fill's x, on a sheet that wide, and a fill's y, on one that high; None: it isn't there."""
        for spot, sizes in ((lambda n: fill(3, n, 0), {"width": width}), (lambda n: fill(3, 0, n), {"height": height})):
            a, b, c = [drawing(fill(), spot(n), name=name, **sizes) for n, name in ((x, "a"), (m, "m"), (u, "b"))]
            answer = [-3] if expected is None else told(drawing(fill(), spot(expected), name="mid", **sizes))
            self.assertEqual(arced(p, q, a, b, c, MID), answer, (p, q, x, m, u))
            self.assertEqual(arced(q - p, q, c, b, a, MID), answer, (p, q, x, m, u))


class ByHand(Arced):
    def test_a_text_byte_by_byte(self):
        a = signs("drawing one 20 10\nstroke arm 3 2 0,0 5,-4\nstroke leg 255 16 -10,999\nfill 7 1,1\nfill 8 19,9\n")
        b = signs("drawing way 20 10\nstroke arm 3 2 8,-8 5,0\nstroke leg 255 16 0,0\nfill 7 4,4\nfill 8 9,5\n")
        c = signs("drawing two 20 10\nstroke arm 3 2 16,0 5,8\nstroke leg 255 16 10,-999\nfill 7 1,9\nfill 8 0,0\n")
        mid = "drawing mid 20 10\nstroke arm 3 2 4,-6 5,-2\nstroke leg 255 16 -5,500\nfill 7 3,2\nfill 8 14,7\n"
        self.assertEqual(arced(1, 4, a, b, c, MID), told(signs(mid)))

    def test_an_arc(self):
        for p, expected in enumerate((0, 44, 75, 94, 100, 94, 75, 44, 0)):
            self.check(p, 8, 0, 100, 0, expected)
            self.check(p, 8, 0, -100, 0, -expected)

    def test_each_end_and_the_middle_by_itself(self):
        self.check(1, 4, 800, 0, 0, 300)
        self.check(1, 4, 0, 800, 0, 600)
        self.check(1, 4, 0, 0, 800, -100)
        self.check(1, 3, 900, 0, 0, 200)
        self.check(1, 3, 0, 900, 0, 800)
        self.check(1, 3, 0, 0, 900, -100)

    def test_a_half_the_greater_one(self):
        self.check(1, 4, 0, 0, 4, 0)
        self.check(1, 4, 0, 0, -4, 1)
        self.check(1, 4, 4, 0, 0, 2)
        self.check(1, 4, -4, 0, 0, -1)
        self.check(1, 4, 0, 2, 0, 2)
        self.check(1, 4, 0, -2, 0, -1)
        self.check(1, 4, 0, 2, 8, 1)
        self.check(1, 4, -8, -2, 0, -4)

    def test_just_beside_a_half(self):
        self.check(1, 4, 1, 0, 0, 0)
        self.check(1, 4, 0, 0, 3, 0)
        self.check(1, 4, 0, 0, 5, -1)
        self.check(1, 4, 0, 0, -3, 0)
        self.check(1, 4, 0, 0, -5, 1)

    def test_the_second_text_is_by_way_of_which(self):
        a, b, c = [drawing(stroke(places=[(n, n)])) for n in (0, 5, 100)]
        self.assertEqual(numbers(text_of(arced(1, 2, a, b, c, MID))), [5, 5])
        self.assertEqual(numbers(text_of(arced(1, 1, a, b, c, MID))), [100, 100])

    def test_each_place_and_fill_from_its_own_number(self):
        a = drawing(stroke("s", places=[(0, 10), (20, 30)]), stroke("t", places=[(40, 50)]), fill(1, 0, 2), fill(2, 4, 6))
        b = drawing(stroke("s", places=[(1, 2), (3, 4)]), stroke("t", places=[(5, 6)]), fill(1, 7, 8), fill(2, 9, 0))
        c = drawing(stroke("s", places=[(2, 14), (26, 38)]), stroke("t", places=[(50, 62)]), fill(1, 8, 8), fill(2, 6, 0))
        self.assertEqual(numbers(text_of(arced(1, 2, a, b, c, MID))), list(range(1, 10)) + [0])


class NotThere(Arced):
    """At 1 / 4 it is (3 x + 6 m - u) / 8."""

    def test_beyond_999(self):
        self.check(1, 4, 999, 999, 999, 999)
        self.check(1, 4, 999, 999, 996, 999)
        self.check(1, 4, 999, 999, 995, None)
        self.check(1, 4, 999, 999, 994, None)
        self.check(1, 4, 999, 999, -999, None)

    def test_beyond_999_below_0(self):
        self.check(1, 4, -999, -999, -999, -999)
        self.check(1, 4, -999, -999, -996, -999)
        self.check(1, 4, -999, -999, -995, -999)
        self.check(1, 4, -999, -999, -994, None)
        self.check(1, 4, -999, -999, 999, None)

    def test_a_stroke_may_leave_the_sheet(self):
        self.check(1, 4, 0, 0, 80, -10)
        self.check(1, 4, 80, 80, 0, 90)

    def test_a_fill_beyond_the_right_and_the_lower_edge(self):
        self.check_fill(1, 4, 9, 9, 9, 9)
        self.check_fill(1, 4, 9, 9, 6, 9)
        self.check_fill(1, 4, 9, 9, 5, None)
        self.check_fill(1, 4, 9, 9, 0, None)
        self.check_fill(1, 4, 9, 9, 5, 10, 11, 11)
        self.check_fill(1, 4, 255, 255, 252, 255, 256, 256)
        self.check_fill(1, 4, 255, 255, 251, None, 256, 256)

    def test_a_fill_beyond_the_left_and_the_upper_edge(self):
        self.check_fill(1, 4, 0, 0, 0, 0)
        self.check_fill(1, 4, 0, 0, 4, 0)
        self.check_fill(1, 4, 0, 0, 5, None)
        self.check_fill(1, 4, 0, 0, 9, None)
        self.check_fill(1, 4, 0, 0, 5, None, 256, 256)

    def test_width_for_x_and_height_for_y(self):
        for width, height, expected in ((10, 11, [-3]), (11, 10, 10)):
            a, b, c = [drawing(fill(1, n, 0), width=width, height=height) for n in (9, 9, 5)]
            answer = arced(1, 4, a, b, c, MID)
            self.assertEqual(answer if expected == [-3] else numbers(answer[1:])[0], expected)
            a, b, c = [drawing(fill(1, 0, n), width=height, height=width) for n in (9, 9, 5)]
            answer = arced(1, 4, a, b, c, MID)
            self.assertEqual(answer if expected == [-3] else numbers(answer[1:])[1], expected)

    def test_one_number_is_enough_wherever_it_is(self):
        for stand in range(12):
            texts = []
            for n in (999, 999, -999):
                values = [5] * 12
                values[stand] = n
                rows = [stroke(f"s{i}", places=[values[i:i + 2], values[i + 2:i + 4]]) for i in (0, 4, 8)]
                texts.append(drawing(*rows, fill()))
            self.assertEqual(arced(1, 4, *texts, MID), [-3])
        for stand in range(6):
            texts = []
            for n in (9, 9, 0):
                values = [5] * 6
                values[stand] = n
                texts.append(drawing(stroke(), *[fill(1, *values[i:i + 2]) for i in (0, 2, 4)]))
            self.assertEqual(arced(1, 4, *texts, MID), [-3])

    def test_there_at_the_ends_and_in_the_middle_all_the_same(self):
        a, b, c = [drawing(stroke(places=[(n, -n)]), fill(1, f, 9 - f)) for n, f in ((999, 9), (999, 9), (-999, 0))]
        for q in range(1, 65):
            self.assertEqual(arced(0, q, a, b, c, MID), told(named(a, "mid")))
            self.assertEqual(arced(q, q, a, b, c, MID), told(named(c, "mid")))
            if q % 2 == 0:
                self.assertEqual(arced(q // 2, q, a, b, c, MID), told(named(b, "mid")))
        self.assertEqual(arced(1, 4, a, b, c, MID), [-3])


class EveryPart(Arced):
    TEXTS = three((-7, -3, 0, 1, 2), (100, 101, 103, 108))
    ROWS = list(zip(*[numbers(text) for text in TEXTS]))

    def test_nearest_and_the_same_from_the_other_end(self):
        a, b, c = self.TEXTS
        for p, q in PARTS:
            answer = arced(p, q, a, b, c, MID)
            for row, n in zip(self.ROWS, numbers(text_of(answer)), strict=True):
                self.assertTrue(is_nearest(n, way(p, q, *row), q * q), (p, q, row, n))
            self.assertEqual(arced(q - p, q, c, b, a, MID), answer, (p, q))

    def test_there_or_not_there(self):
        seen = set()
        for values in ((999, 998, 990), (-999, -998, -990), (-999, 0, 999), (500, 998, -997)):
            for row in [(x, m, u) for x in values for m in values for u in values]:
                texts = [drawing(stroke(places=[(3, n)])) for n in row]
                for p, q in PARTS[::29]:
                    n = floor(Fraction(way(p, q, *row), q * q) + Fraction(1, 2))
                    there = told(drawing(stroke(places=[(3, n)]), name="mid"))
                    answer = arced(p, q, *texts, MID)
                    self.assertEqual(answer, there if -999 <= n <= 999 else [-3], (p, q, row))
                    seen.add(answer == [-3])
        self.assertEqual(seen, {False, True})

    def test_at_the_ends_and_in_the_middle(self):
        ones, others = ends()
        middle = shaped("way", paired((999, -999, 3, 0, 7, -8, 1, 2, 64, 5, -5, 998))[0], paired((9, 0, 255, 7, 8))[1])
        for q in range(1, 65):
            self.assertEqual(arced(0, q, ones, middle, others, MID), told(named(ones, "mid")))
            self.assertEqual(arced(q, q, ones, middle, others, MID), told(named(others, "mid")))
            if q % 2 == 0:
                self.assertEqual(arced(q // 2, q, ones, middle, others, MID), told(named(middle, "mid")))

    def test_halfway_it_is_what_is_between(self):
        ones, others = paired((-999, -997, -1, 1, 3, 999))
        evens, more = paired((-998, -2, 0, 2, 4, 998))
        spots, ends_of_spots = paired((0, 2, 128, 254))
        xs, us = ones + evens, others + more
        a, c = shaped("one", xs, spots), shaped("two", us, ends_of_spots)
        halfway = [(x + u) // 2 for x, u in zip(xs, us)]
        b = shaped("way", halfway, [(x + u) // 2 for x, u in zip(spots, ends_of_spots)])
        for p, q in PARTS:
            self.assertEqual(arced(p, q, a, b, c, MID), between(p, q, a, c, MID), (p, q))

    def test_it_is_a_drawing_that_fits_all(self):
        for p, q in PARTS[::17]:
            text = text_of(arced(p, q, *self.TEXTS, MID))
            self.assertTrue(is_drawing(bytes(text)))
            self.assertEqual([fit(text, other) for other in self.TEXTS], [[0]] * 3)


class LittleAndMuch(Arced):
    def test_no_strokes_and_no_fills(self):
        a, b, c, mid = [drawing(name=name, width=256, height=1) for name in ("a", "m", "b", "mid")]
        for p, q in ((0, 1), (1, 1), (1, 2), (64, 64)):
            self.assertEqual(arced(p, q, a, b, c, MID), told(mid))

    def test_strokes_alone_and_fills_alone(self):
        for row in (lambda n: stroke(places=[(n, 0)]), lambda n: fill(9, n, 0)):
            a, b, c, mid = [drawing(row(n), name=name) for n, name in ((0, "a"), (8, "m"), (8, "b"), (5, "mid"))]
            self.assertEqual(arced(1, 4, a, b, c, MID), told(mid))

    def test_as_much_as_can_be(self):
        a = greatest("a" * 16, (0, 80), (0, 255))
        b = greatest("m", (40, -40), (128, 128))
        c = greatest("b" * 16, (0, 80), (255, 0))
        self.assertTrue(max(len(a), len(b), len(c)) <= 36000)
        expected = greatest("c" * 16, (30, -10), (64, 192))
        self.assertEqual(arced(1, 4, a, b, c, signs("c" * 16)), told(expected))

    def test_texts_as_long_as_can_be_handed_in(self):
        a = drawing(stroke(), fill())
        for long in ([10] * 36000, [97] * 36000, a + [10] * (36000 - len(a)), (a * 36000)[:36000]):
            self.assertEqual(arced(1, 2, long, a, a, MID), [-6])
            self.assertEqual(arced(1, 2, a, long, a, MID), [-5])
            self.assertEqual(arced(1, 2, a, a, long, MID), [-4])
            self.assertEqual(arced(1, 2, long, long, long, MID), [-6])


class Names(Arced):
    A, B, C = [drawing(stroke(), name=name) for name in ("one", "way", "two")]

    def test_the_name_that_is_told(self):
        for name in RIGHT_NAMES:
            expected = told(drawing(stroke(), name=bytes(name).decode()))
            for p in range(5):
                self.assertEqual(arced(p, 4, self.A, self.B, self.C, name), expected)

    def test_names_that_are_none(self):
        for name in WRONG_NAMES:
            for p in range(5):
                self.assertEqual(arced(p, 4, self.A, self.B, self.C, name), [-1], bytes(name))


class Refused(Arced):
    A, B, C = [drawing(stroke(places=[(n, n)])) for n in (0, 8, 8)]
    WIDE = drawing(stroke(), width=11)
    # Drawings whose arc leaves what can be there, at 1 / 4.
    OUT = [drawing(stroke(places=[(n, 0)])) for n in (999, 999, -999)]

    def test_p_and_q(self):
        for q in (1, 2, 63, 64):
            for p in (0, 1, q - 1, q):
                self.assertEqual(arced(p, q, self.A, self.B, self.C, MID)[0], len(self.A) + 2)
            for p in (q + 1, q + 2, 64 * q + 1, MOST):
                self.assertEqual(arced(p, q, self.A, self.B, self.C, MID), [-1])
        for q in (0, 65, 66, 128, 2 ** 32, 2 ** 63, MOST - 1, MOST):
            for p in (0, 1, 64, 65, q, MOST):
                self.assertEqual(arced(p, q, self.A, self.B, self.C, MID), [-1])

    def test_texts_that_are_none(self):
        for p in range(5):
            self.assertEqual(arced(p, 4, NONE, self.B, self.C, MID), [-6])
            self.assertEqual(arced(p, 4, self.A, NONE, self.C, MID), [-5])
            self.assertEqual(arced(p, 4, self.A, self.B, NONE, MID), [-4])
            self.assertEqual(arced(p, 4, NONE, NONE, self.C, MID), [-6])
            self.assertEqual(arced(p, 4, NONE, self.B, NONE, MID), [-6])
            self.assertEqual(arced(p, 4, self.A, NONE, NONE, MID), [-5])
            self.assertEqual(arced(p, 4, NONE, NONE, NONE, MID), [-6])
            self.assertEqual(arced(p, 4, [], [], [], MID), [-6])

    def test_those_that_do_not_fit(self):
        for a, b in unfit():
            for p in range(5):
                self.assertEqual(arced(p, 4, a, b, a, MID), [-8])
                self.assertEqual(arced(p, 4, a, a, b, MID), [-8])
                self.assertEqual(arced(p, 4, a, b, b, MID), [-8])

    def test_numbers_and_names_before_all(self):
        trios = ((NONE, self.B, self.C), (self.A, NONE, self.C), (self.A, self.B, NONE), (NONE, NONE, NONE),
                 (self.A, self.WIDE, self.C), (self.A, self.B, self.WIDE), ([10] * 65537, self.B, self.C), self.OUT)
        for p, q, s in ((3, 2, MID), (0, 0, MID), (0, 65, MID), (1, 4, []), (3, 2, [])):
            for texts in trios:
                self.assertEqual(arced(p, q, *texts, s), [-1])

    def test_too_long_before_the_rest(self):
        long = [10] * 65537
        for texts in ((long, self.B, self.C), (self.A, long, self.C), (self.A, self.B, long), (NONE, NONE, long)):
            self.assertEqual(arced(1, 2, *texts, MID), [-2])
        self.assertEqual(arced(1, 2, [10] * 65536, self.B, self.C, MID), [-6])
        self.assertEqual(arced(1, 2, self.A, [10] * 65536, self.C, MID), [-5])
        self.assertEqual(arced(1, 2, self.A, self.B, [10] * 65536, MID), [-4])

    def test_none_before_unfit(self):
        self.assertEqual(arced(1, 2, NONE, self.WIDE, self.C, MID), [-6])
        self.assertEqual(arced(1, 2, self.WIDE, NONE, self.C, MID), [-5])
        self.assertEqual(arced(1, 2, self.A, self.WIDE, NONE, MID), [-4])
        self.assertEqual(arced(1, 2, self.WIDE, self.B, self.C, MID), [-8])

    def test_unfit_before_not_there(self):
        a, b, c = self.OUT
        self.assertEqual(arced(1, 4, a, b, c, MID), [-3])
        self.assertEqual(arced(1, 4, a, b, drawing(stroke(places=[(-999, 0)]), width=11), MID), [-8])
        self.assertEqual(arced(1, 4, a, drawing(stroke(places=[(999, 0)]), width=11), c, MID), [-8])
        self.assertEqual(arced(1, 4, a, b, NONE, MID), [-4])
        self.assertEqual(arced(1, 4, a, NONE, c, MID), [-5])
        self.assertEqual(arced(1, 4, NONE, b, c, MID), [-6])


if __name__ == "__main__":
    unittest.main()
