import unittest

from drawingsbetween.drawings import apart, between, fit
from tests.making import RIGHT_NAMES, WRONG_NAMES, drawing, ends, fill, greatest, is_drawing, is_nearest, named
from tests.making import MOST, numbers, signs, stroke, text_of, told, unfit

NONE = signs("no drawing")
MID = signs("mid")
PARTS = [(p, q) for q in range(1, 65) for p in range(q + 1)]


class Between(unittest.TestCase):
    def check(self, p, q, x, u, expected):
        """A number on its way, at each stand that it can have in a stroke."""
        for places in (lambda n: [(n, 0)], lambda n: [(0, n)], lambda n: [(7, 7), (n, n)]):
            a, b, mid = [drawing(stroke(places=places(n)), name=name) for n, name in ((x, "a"), (u, "b"), (expected, "mid"))]
            self.assertEqual(between(p, q, a, b, MID), told(mid), (p, q, x, u))
            self.assertEqual(between(q - p, q, b, a, MID), told(mid), (p, q, x, u))


class ByHand(Between):
    def test_a_text_byte_by_byte(self):
        a = signs("drawing one 20 10\nstroke arm 3 2 0,0 5,-4\nstroke leg 255 16 -10,999\nfill 7 1,1\nfill 8 19,9\n")
        b = signs("drawing two 20 10\nstroke arm 3 2 9,0 5,8\nstroke leg 255 16 -100,-999\nfill 7 4,1\nfill 8 0,0\n")
        mid = "drawing mid 20 10\nstroke arm 3 2 3,0 5,0\nstroke leg 255 16 -40,333\nfill 7 2,1\nfill 8 13,6\n"
        self.assertEqual(between(1, 3, a, b, MID), told(signs(mid)))

    def test_ordinary(self):
        self.check(1, 2, 0, 10, 5)
        self.check(1, 4, 0, 100, 25)
        self.check(3, 4, 0, 100, 75)
        self.check(1, 3, 0, 10, 3)
        self.check(2, 3, 0, 10, 7)
        self.check(5, 64, -999, 999, -843)

    def test_a_half_the_greater_one(self):
        self.check(1, 2, 0, 1, 1)
        self.check(1, 2, 1, 0, 1)
        self.check(1, 2, 0, 5, 3)
        self.check(1, 2, 5, 0, 3)
        self.check(1, 4, 0, 2, 1)
        self.check(3, 4, 0, 2, 2)
        self.check(32, 64, 998, 999, 999)

    def test_a_half_below_0(self):
        self.check(1, 2, 0, -1, 0)
        self.check(1, 2, -1, 0, 0)
        self.check(1, 2, 0, -5, -2)
        self.check(1, 2, -5, 0, -2)
        self.check(1, 2, -4, -7, -5)
        self.check(1, 2, -1, 2, 1)
        self.check(1, 2, 1, -2, 0)
        self.check(32, 64, -998, -999, -998)

    def test_just_beside_a_half(self):
        self.check(1, 3, 0, 1, 0)
        self.check(2, 3, 0, 1, 1)
        self.check(1, 3, 0, -1, 0)
        self.check(2, 3, 0, -1, -1)
        self.check(31, 63, 0, 1, 0)
        self.check(32, 63, 0, 1, 1)

    def test_the_widest(self):
        self.check(1, 64, -999, 999, -968)
        self.check(63, 64, -999, 999, 968)
        self.check(1, 2, -999, 999, 0)
        self.check(1, 2, -999, 998, 0)

    def test_from_a_drawing_to_itself(self):
        a = ends()[0]
        for p, q in ((0, 1), (1, 2), (1, 3), (40, 64)):
            self.assertEqual(between(p, q, a, a, MID), told(named(a, "mid")))

    def test_fills_points(self):
        for x, u, expected in ((0, 9, 5), (9, 0, 5), (3, 4, 4), (4, 3, 4), (6, 6, 6)):
            for spot in (lambda n: fill(2, n, 0), lambda n: fill(2, 0, n)):
                a, b, mid = [drawing(spot(n), name=name) for n, name in ((x, "a"), (u, "b"), (expected, "mid"))]
                self.assertEqual(between(1, 2, a, b, MID), told(mid))

    def test_each_place_and_fill_from_its_own_number(self):
        a = drawing(stroke("s", places=[(0, 10), (20, 30)]), stroke("t", places=[(40, 50)]), fill(1, 0, 2), fill(2, 4, 6))
        b = drawing(stroke("s", places=[(2, 14), (26, 38)]), stroke("t", places=[(50, 62)]), fill(1, 8, 8), fill(2, 6, 0))
        answer = text_of(between(1, 2, a, b, MID))
        self.assertEqual(numbers(answer), [1, 12, 23, 34, 45, 56, 4, 5, 5, 3])


class EveryPart(Between):
    A, B = ends()
    XS, US = numbers(A), numbers(B)

    def test_at_the_ends(self):
        for q in range(1, 65):
            self.assertEqual(between(0, q, self.A, self.B, MID), told(named(self.A, "mid")))
            self.assertEqual(between(q, q, self.A, self.B, MID), told(named(self.B, "mid")))

    def test_nearest_and_the_same_from_the_other_end(self):
        for p, q in PARTS:
            answer = between(p, q, self.A, self.B, MID)
            for x, u, n in zip(self.XS, self.US, numbers(text_of(answer)), strict=True):
                self.assertTrue(is_nearest(n, x * q + p * (u - x), q), (p, q, x, u, n))
            self.assertEqual(between(q - p, q, self.B, self.A, MID), answer, (p, q))

    def test_no_number_goes_back(self):
        for q in range(1, 65):
            before = self.XS
            for p in range(q + 1):
                now = numbers(text_of(between(p, q, self.A, self.B, MID)))
                for x, u, old, new in zip(self.XS, self.US, before, now, strict=True):
                    self.assertTrue(old <= new <= u if x <= u else old >= new >= u, (p, q, x, u))
                before = now

    def test_the_same_fraction_in_other_terms(self):
        for p, q in ((0, 1), (1, 1), (1, 2), (1, 3), (2, 3), (3, 4), (5, 8), (31, 32)):
            first = between(p, q, self.A, self.B, MID)
            for n in range(1, 64 // q + 1):
                self.assertEqual(between(n * p, n * q, self.A, self.B, MID), first)

    def test_it_is_a_drawing_that_fits_both(self):
        for p, q in PARTS[::17]:
            text = text_of(between(p, q, self.A, self.B, MID))
            self.assertTrue(is_drawing(bytes(text)))
            self.assertEqual((fit(text, self.A), fit(self.B, text)), ([0], [0]))


class Little(Between):
    def test_no_strokes_and_no_fills(self):
        for width, height in ((1, 1), (256, 1), (7, 256)):
            a, b, mid = [drawing(name=name, width=width, height=height) for name in ("a", "b", "mid")]
            for p, q in ((0, 1), (1, 1), (1, 2), (64, 64)):
                self.assertEqual(between(p, q, a, b, MID), told(mid))

    def test_strokes_alone(self):
        a, b, mid = [drawing(stroke(places=[(n, -n)]), name=name) for n, name in ((0, "a"), (8, "b"), (4, "mid"))]
        self.assertEqual(between(1, 2, a, b, MID), told(mid))

    def test_fills_alone(self):
        a, b, mid = [drawing(fill(9, n, 9), fill(9, 0, n), name=name) for n, name in ((0, "a"), (8, "b"), (4, "mid"))]
        self.assertEqual(between(1, 2, a, b, MID), told(mid))


class Much(Between):
    def test_as_much_as_can_be(self):
        a = greatest("a" * 16, (-999, -998), (0, 255))
        b = greatest("b", (-997, -999), (255, 0))
        for p, q, place, point in ((0, 1, (-999, -998), (0, 255)), (1, 2, (-998, -998), (128, 128)),
                                   (63, 64, (-997, -999), (251, 4)), (64, 64, (-997, -999), (255, 0))):
            self.assertEqual(between(p, q, a, b, signs("c" * 16)), told(greatest("c" * 16, place, point)))

    def test_the_longest_text(self):
        a = greatest("a" * 16, (-999, -999), (255, 255))
        self.assertEqual(between(1, 2, a, a, signs("b" * 16)), told(greatest("b" * 16, (-999, -999), (255, 255))))

    def test_texts_as_long_as_can_be_handed_in(self):
        a = drawing(stroke(), fill())
        for long in ([10] * 55000, [97] * 55000, a + [10] * (55000 - len(a)), (a * 55000)[:55000]):
            self.assertEqual(between(1, 2, long, a, MID), [-6])
            self.assertEqual(between(1, 2, a, long, MID), [-5])
            self.assertEqual(between(1, 2, long, long, MID), [-6])


class Names(Between):
    A, B = drawing(stroke(), name="one"), drawing(stroke(), name="two")

    def test_the_name_that_is_told(self):
        for name in RIGHT_NAMES:
            expected = told(drawing(stroke(), name=bytes(name).decode()))
            for p in range(3):
                self.assertEqual(between(p, 2, self.A, self.B, name), expected)

    def test_names_that_are_none(self):
        for name in WRONG_NAMES:
            for p in range(3):
                self.assertEqual(between(p, 2, self.A, self.B, name), [-1], bytes(name))

    def test_each_byte_as_a_name_and_within_one(self):
        letters = b"abcdefghijklmnopqrstuvwxyz"
        for sign in range(256):
            self.assertEqual(between(1, 2, self.A, self.B, [sign]) == [-1], sign not in letters, sign)
            self.assertEqual(between(1, 2, self.A, self.B, [97, sign]) == [-1], sign not in letters + b"0123456789", sign)


class Refused(Between):
    A, B = drawing(stroke(places=[(0, 0)])), drawing(stroke(places=[(8, 8)]))
    WIDE = drawing(stroke(), width=11)

    def test_p_and_q(self):
        for q in (1, 2, 63, 64):
            for p in (0, 1, q - 1, q):
                self.assertEqual(between(p, q, self.A, self.B, MID)[0], len(self.A) + 2)
            for p in (q + 1, q + 2, 64 * q + 1, MOST):
                self.assertEqual(between(p, q, self.A, self.B, MID), [-1])
        for q in (0, 65, 66, 128, 2 ** 32, 2 ** 63, MOST - 1, MOST):
            for p in (0, 1, 64, 65, q, MOST):
                self.assertEqual(between(p, q, self.A, self.B, MID), [-1])

    def test_texts_that_are_none(self):
        self.assertEqual(between(1, 2, NONE, self.B, MID), [-6])
        self.assertEqual(between(1, 2, self.A, NONE, MID), [-5])
        self.assertEqual(between(1, 2, NONE, NONE, MID), [-6])
        self.assertEqual(between(1, 2, [], [], MID), [-6])
        for p in (0, 2):
            self.assertEqual(between(p, 2, NONE, self.B, MID), [-6])
            self.assertEqual(between(p, 2, self.A, NONE, MID), [-5])

    def test_two_that_do_not_fit(self):
        for a, b in unfit():
            for p in range(3):
                self.assertEqual(between(p, 2, a, b, MID), [-8])

    def test_numbers_and_names_before_all(self):
        for p, q, s in ((3, 2, MID), (0, 0, MID), (0, 65, MID), (1, 2, []), (3, 2, [])):
            for a, b in ((NONE, self.B), (self.A, NONE), (NONE, NONE), (self.A, self.WIDE), ([10] * 65537, self.B)):
                self.assertEqual(between(p, q, a, b, s), [-1])

    def test_too_long_before_the_rest(self):
        self.assertEqual(between(1, 2, [10] * 65537, self.B, MID), [-2])
        self.assertEqual(between(1, 2, self.A, [10] * 65537, MID), [-2])
        self.assertEqual(between(1, 2, NONE, [10] * 65537, MID), [-2])
        self.assertEqual(between(1, 2, [10] * 65536, self.B, MID), [-6])
        self.assertEqual(between(1, 2, self.A, [10] * 65536, MID), [-5])

    def test_unfit_only_if_both_are_drawings(self):
        twice = drawing(stroke("t"), stroke("t"))
        self.assertEqual(between(1, 2, self.WIDE, twice, MID), [-5])
        self.assertEqual(between(1, 2, twice, self.WIDE, MID), [-6])
        self.assertEqual(between(1, 2, self.WIDE, self.B, MID), [-8])

    def test_apart_from_what_is_between(self):
        mid = text_of(between(1, 2, self.A, self.B, MID))
        self.assertEqual((apart(self.A, mid), apart(mid, self.B)), ([4, 4], [4, 4]))


if __name__ == "__main__":
    unittest.main()
