import unittest

from drawingsbetween.drawings import between, fit, halves
from tests.making import MOST, RIGHT_NAMES, WRONG_NAMES, drawing, ends, fill, greatest, is_drawing, named, numbers
from tests.making import signs, stroke, text_of, told, unfit

NONE = signs("no drawing")
MID = signs("mid")
STEPS = [(k, m) for m in range(5) for k in range(2 ** m + 1)]


def rungs(x, u, m):
    """All numbers of m times, made from the ends on: each time one more is put halfway, the greater of two."""
    row = [x, u]
    for _ in range(m):
        mids = [-(-(one + other) // 2) for one, other in zip(row, row[1:])]
        row = [n for two in zip(row, mids) for n in two] + row[-1:]
    return row


def recursion(k, m, a, b):
    """The document's own words, drawing by drawing."""
    if k == 0:
        return named(a, "mid")
    if k == 2 ** m:
        return named(b, "mid")
    if k % 2 == 0:
        return recursion(k // 2, m - 1, a, b)
    ends_of_it = [recursion((k + side) // 2, m - 1, a, b) for side in (-1, 1)]
    return text_of(between(1, 2, *ends_of_it, MID))


class Halves(unittest.TestCase):
    def check(self, m, x, u, expected):
        """Every number of m times, at each stand that it can have in a stroke."""
        self.assertEqual(len(expected), 2 ** m + 1)
        for places in (lambda n: [(n, 0)], lambda n: [(0, n)], lambda n: [(7, 7), (n, n)]):
            a, b = [drawing(stroke(places=places(n)), name=name) for n, name in ((x, "a"), (u, "b"))]
            for k, n in enumerate(expected):
                mid = drawing(stroke(places=places(n)), name="mid")
                self.assertEqual(halves(k, m, a, b, MID), told(mid), (k, m, x, u))


class ByHand(Halves):
    def test_a_text_byte_by_byte(self):
        a = signs("drawing one 20 10\nstroke arm 3 2 0,0 5,-4\nstroke leg 255 16 -10,999\nfill 7 1,1\nfill 8 19,9\n")
        b = signs("drawing two 20 10\nstroke arm 3 2 9,0 5,8\nstroke leg 255 16 -100,-999\nfill 7 4,1\nfill 8 0,0\n")
        mid = "drawing mid 20 10\nstroke arm 3 2 3,0 5,-1\nstroke leg 255 16 -32,500\nfill 7 2,1\nfill 8 15,7\n"
        self.assertEqual(halves(1, 2, a, b, MID), told(signs(mid)))

    def test_none_once_and_twice(self):
        self.check(0, 3, 10, [3, 10])
        self.check(1, 0, 10, [0, 5, 10])
        self.check(2, 0, 100, [0, 25, 50, 75, 100])

    def test_each_half_the_greater_one(self):
        self.check(1, 0, 1, [0, 1, 1])
        self.check(1, 1, 0, [1, 1, 0])
        self.check(2, 0, 1, [0, 1, 1, 1, 1])
        self.check(2, 1, 0, [1, 1, 1, 1, 0])
        self.check(2, 0, 5, [0, 2, 3, 4, 5])
        self.check(4, 0, 1, [0] + [1] * 16)
        self.check(4, 1, 0, [1] * 16 + [0])

    def test_below_0(self):
        self.check(1, 0, -1, [0, 0, -1])
        self.check(1, -1, 0, [-1, 0, 0])
        self.check(2, 0, -5, [0, -1, -2, -3, -5])
        self.check(2, -5, 0, [-5, -3, -2, -1, 0])
        self.check(2, -3, 2, [-3, -1, 0, 1, 2])

    def test_the_widest(self):
        self.check(3, -999, 999, [-999, -749, -499, -249, 0, 250, 500, 750, 999])

    def test_not_always_what_is_between(self):
        a, b = drawing(stroke(places=[(0, 0)])), drawing(stroke(places=[(1, 1)]))
        self.assertEqual(numbers(halves(1, 2, a, b, MID)[1:]), [1, 1])
        self.assertEqual(numbers(between(1, 4, a, b, MID)[1:]), [0, 0])

    def test_fills_points(self):
        for x, u, expected in ((0, 9, [0, 3, 5, 7, 9]), (9, 0, [9, 7, 5, 3, 0]), (3, 4, [3, 4, 4, 4, 4])):
            for spot in (lambda n: fill(2, n, 0), lambda n: fill(2, 0, n)):
                a, b = drawing(spot(x), name="a"), drawing(spot(u), name="b")
                for k, n in enumerate(expected):
                    self.assertEqual(halves(k, 2, a, b, MID), told(drawing(spot(n), name="mid")))


class EveryStep(Halves):
    A, B = ends()
    XS, US = numbers(A), numbers(B)

    def test_at_the_ends(self):
        for m in range(5):
            self.assertEqual(halves(0, m, self.A, self.B, MID), told(named(self.A, "mid")))
            self.assertEqual(halves(2 ** m, m, self.A, self.B, MID), told(named(self.B, "mid")))

    def test_each_one_put_halfway(self):
        for m in range(5):
            rows = [rungs(x, u, m) for x, u in zip(self.XS, self.US)]
            for k in range(2 ** m + 1):
                answer = numbers(text_of(halves(k, m, self.A, self.B, MID)))
                self.assertEqual(answer, [row[k] for row in rows], (k, m))

    def test_the_documents_own_recursion(self):
        for k, m in STEPS:
            self.assertEqual(halves(k, m, self.A, self.B, MID), told(recursion(k, m, self.A, self.B)), (k, m))

    def test_the_same_from_the_other_end(self):
        for k, m in STEPS:
            self.assertEqual(halves(2 ** m - k, m, self.B, self.A, MID), halves(k, m, self.A, self.B, MID), (k, m))

    def test_an_even_one_is_that_of_one_time_less(self):
        for k, m in STEPS:
            for times in range(m + 1, 5):
                more = halves(k * 2 ** (times - m), times, self.A, self.B, MID)
                self.assertEqual(more, halves(k, m, self.A, self.B, MID), (k, m))

    def test_at_most_1_greater_than_what_is_between(self):
        beside = set()
        for k, m in STEPS:
            ones = numbers(text_of(halves(k, m, self.A, self.B, MID)))
            others = numbers(text_of(between(k, 2 ** m, self.A, self.B, MID)))
            for one, other in zip(ones, others, strict=True):
                self.assertIn(one - other, (0, 1), (k, m))
                beside.add(one - other)
        self.assertEqual(beside, {0, 1})

    def test_at_most_1_greater_for_every_way(self):
        for start in range(-640, 641, 64):
            xs, us = [start] * 128, [start + way for way in range(-64, 64)]
            a, b = [drawing(stroke(places=list(zip(ns[::2], ns[1::2])))) for ns in (xs, us)]
            for k, m in STEPS:
                ones = numbers(text_of(halves(k, m, a, b, MID)))
                others = numbers(text_of(between(k, 2 ** m, a, b, MID)))
                self.assertTrue(all(one - other in (0, 1) for one, other in zip(ones, others, strict=True)), (k, m))

    def test_no_number_goes_back(self):
        for m in range(5):
            before = self.XS
            for k in range(2 ** m + 1):
                now = numbers(text_of(halves(k, m, self.A, self.B, MID)))
                for x, u, old, new in zip(self.XS, self.US, before, now, strict=True):
                    self.assertTrue(old <= new <= u if x <= u else old >= new >= u, (k, m, x, u))
                before = now

    def test_it_is_a_drawing_that_fits_both(self):
        for k, m in STEPS:
            text = text_of(halves(k, m, self.A, self.B, MID))
            self.assertTrue(is_drawing(bytes(text)))
            self.assertEqual((fit(text, self.A), fit(self.B, text)), ([0], [0]))


class LittleAndMuch(Halves):
    def test_no_strokes_and_no_fills(self):
        a, b, mid = [drawing(name=name, width=256, height=1) for name in ("a", "b", "mid")]
        for k, m in STEPS:
            self.assertEqual(halves(k, m, a, b, MID), told(mid))

    def test_as_much_as_can_be(self):
        a = greatest("a" * 16, (-999, -998), (0, 255))
        b = greatest("b", (-997, -999), (255, 0))
        for k, m, place, point in ((0, 0, (-999, -998), (0, 255)), (1, 1, (-998, -998), (128, 128)),
                                   (15, 4, (-997, -998), (240, 16)), (16, 4, (-997, -999), (255, 0))):
            self.assertEqual(halves(k, m, a, b, signs("c" * 16)), told(greatest("c" * 16, place, point)))

    def test_texts_as_long_as_can_be_handed_in(self):
        a = drawing(stroke(), fill())
        for long in ([10] * 55000, [97] * 55000, a + [10] * (55000 - len(a)), (a * 55000)[:55000]):
            self.assertEqual(halves(1, 2, long, a, MID), [-6])
            self.assertEqual(halves(1, 2, a, long, MID), [-5])
            self.assertEqual(halves(1, 2, long, long, MID), [-6])


class Names(Halves):
    A, B = drawing(stroke(), name="one"), drawing(stroke(), name="two")

    def test_the_name_that_is_told(self):
        for name in RIGHT_NAMES:
            expected = told(drawing(stroke(), name=bytes(name).decode()))
            for k in range(5):
                self.assertEqual(halves(k, 2, self.A, self.B, name), expected)

    def test_names_that_are_none(self):
        for name in WRONG_NAMES:
            for k in range(5):
                self.assertEqual(halves(k, 2, self.A, self.B, name), [-1], bytes(name))


class Refused(Halves):
    A, B = drawing(stroke(places=[(0, 0)])), drawing(stroke(places=[(8, 8)]))
    WIDE = drawing(stroke(), width=11)

    def test_k_and_m(self):
        for m in range(5):
            for k in (2 ** m + 1, 2 ** m + 2, 33, MOST - 1, MOST):
                self.assertEqual(halves(k, m, self.A, self.B, MID), [-1], (k, m))
        for m in (5, 6, 64, 2 ** 32, 2 ** 63, MOST - 1, MOST):
            for k in (0, 1, 16, 32, m, MOST):
                self.assertEqual(halves(k, m, self.A, self.B, MID), [-1], (k, m))

    def test_texts_that_are_none(self):
        for k in range(3):
            self.assertEqual(halves(k, 1, NONE, self.B, MID), [-6])
            self.assertEqual(halves(k, 1, self.A, NONE, MID), [-5])
            self.assertEqual(halves(k, 1, NONE, NONE, MID), [-6])
            self.assertEqual(halves(k, 1, [], [], MID), [-6])

    def test_two_that_do_not_fit(self):
        for a, b in unfit():
            for k in range(3):
                self.assertEqual(halves(k, 1, a, b, MID), [-8])

    def test_numbers_and_names_before_all(self):
        for k, m, s in ((3, 1, MID), (2, 0, MID), (0, 5, MID), (1, 1, []), (3, 1, [])):
            for a, b in ((NONE, self.B), (self.A, NONE), (NONE, NONE), (self.A, self.WIDE), ([10] * 65537, self.B)):
                self.assertEqual(halves(k, m, a, b, s), [-1])

    def test_too_long_before_the_rest(self):
        self.assertEqual(halves(1, 1, [10] * 65537, self.B, MID), [-2])
        self.assertEqual(halves(1, 1, self.A, [10] * 65537, MID), [-2])
        self.assertEqual(halves(1, 1, NONE, [10] * 65537, MID), [-2])
        self.assertEqual(halves(1, 1, [10] * 65536, self.B, MID), [-6])
        self.assertEqual(halves(1, 1, self.A, [10] * 65536, MID), [-5])

    def test_unfit_only_if_both_are_drawings(self):
        twice = drawing(stroke("t"), stroke("t"))
        self.assertEqual(halves(1, 1, self.WIDE, twice, MID), [-5])
        self.assertEqual(halves(1, 1, twice, self.WIDE, MID), [-6])
        self.assertEqual(halves(1, 1, self.WIDE, self.B, MID), [-8])


if __name__ == "__main__":
    unittest.main()
