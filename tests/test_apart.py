import unittest

from drawingsbetween.drawings import apart
from tests.making import drawing, fill, greatest, signs, stroke

NONE = signs("no drawing")


class HowFar(unittest.TestCase):
    def check(self, a, b, x, y):
        self.assertEqual(apart(a, b), [x, y])
        self.assertEqual(apart(b, a), [x, y])

    def strokes(self, places, others, x, y):
        self.check(drawing(stroke(places=places)), drawing(stroke(places=others)), x, y)

    def test_nothing_to_compare(self):
        self.check(drawing(), drawing(name="b"), 0, 0)

    def test_the_same_one(self):
        a = drawing(stroke(places=[(5, -6), (7, 8)]), fill(1, 3, 4))
        self.check(a, a, 0, 0)

    def test_one_place(self):
        self.strokes([(1, 2)], [(4, 9)], 3, 7)
        self.strokes([(1, 9)], [(4, 2)], 3, 7)

    def test_x_alone_and_y_alone(self):
        self.strokes([(1, 2)], [(6, 2)], 5, 0)
        self.strokes([(1, 2)], [(1, 7)], 0, 5)

    def test_x_and_y_at_different_places(self):
        self.strokes([(0, 0), (0, 0), (0, 0)], [(1, 9), (8, 2), (3, 3)], 8, 9)

    def test_wherever_the_farthest_place_is(self):
        for i in range(64):
            places = [(1, 1)] * 64
            places[i] = (21, -31)
            self.strokes([(0, 0)] * 64, places, 21, 31)

    def test_by_number_not_by_nearness(self):
        self.strokes([(0, 0), (10, 20)], [(10, 20), (0, 0)], 10, 20)

    def test_not_within_one_drawing(self):
        self.strokes([(0, 0), (50, 60)], [(1, 2), (50, 60)], 1, 2)

    def test_below_0(self):
        self.strokes([(-3, -4)], [(-10, 6)], 7, 10)
        self.strokes([(-3, -4)], [(3, 4)], 6, 8)
        self.strokes([(-3, -4)], [(-3, -4)], 0, 0)

    def test_each_stroke_counts(self):
        near, far = [(0, 0)], [(4, -5)]
        for i in range(3):
            others = [stroke(f"s{k}", places=far if k == i else near) for k in range(3)]
            self.check(drawing(*[stroke(f"s{k}") for k in range(3)]), drawing(*others), 4, 5)

    def test_fills_alone(self):
        self.check(drawing(fill(1, 2, 9)), drawing(fill(1, 8, 1)), 6, 8)
        self.check(drawing(fill(), fill(2), fill(3)), drawing(fill(1, 1, 1), fill(2, 9, 0), fill(3, 2, 7)), 9, 7)

    def test_strokes_and_fills_together(self):
        a = drawing(stroke(), fill())
        self.check(a, drawing(stroke(places=[(5, 1)]), fill(1, 2, 6)), 5, 6)
        self.check(a, drawing(stroke(places=[(1, 5)]), fill(1, 6, 2)), 6, 5)

    def test_the_greatest(self):
        self.strokes([(-999, 999)], [(999, -999)], 1998, 1998)
        a, b = [drawing(fill(1, x, y), width=256, height=256) for x, y in ((0, 255), (255, 0))]
        self.check(a, b, 255, 255)

    def test_as_much_as_can_be(self):
        a = greatest("a" * 16, (-999, -999), (0, 0))
        self.check(a, greatest("b", (999, 998), (255, 255)), 1998, 1997)
        self.check(a, greatest("b", (-999, -999), (255, 254)), 255, 254)


class Refused(unittest.TestCase):
    def test_first_second_and_both(self):
        a = drawing(stroke())
        self.assertEqual(apart(NONE, a), [-6])
        self.assertEqual(apart(a, NONE), [-5])
        self.assertEqual(apart(NONE, NONE), [-6])

    def test_each_kind_that_does_not_fit_by_itself(self):
        a = drawing(stroke("s"), fill(1))
        others = [
            drawing(stroke("s"), fill(1), width=11),
            drawing(stroke("s"), fill(1), height=11),
            drawing(stroke("s"), stroke("t"), fill(1)),
            drawing(stroke("t"), fill(1)),
            drawing(stroke("s", paint=2), fill(1)),
            drawing(stroke("s", brush=1), fill(1)),
            drawing(stroke("s", places=[(0, 0), (0, 0)]), fill(1)),
            drawing(stroke("s"), fill(1), fill(1)),
            drawing(stroke("s"), fill(2)),
        ]
        for b in others:
            self.assertEqual(apart(a, b), [-8], b)
            self.assertEqual(apart(b, a), [-8], b)

    def test_unfit_only_if_both_are_drawings(self):
        wide = drawing(width=11)
        self.assertEqual(apart(wide, drawing(stroke("t"), stroke("t"))), [-5])
        self.assertEqual(apart(drawing(stroke("t"), stroke("t")), wide), [-6])

    def test_too_long_comes_first(self):
        a = drawing()
        self.assertEqual(apart([10] * 65537, a), [-2])
        self.assertEqual(apart(a, [10] * 65537), [-2])
        self.assertEqual(apart(NONE, [10] * 65537), [-2])
        self.assertEqual(apart([10] * 65536, a), [-6])
        self.assertEqual(apart(a, [10] * 65536), [-5])


if __name__ == "__main__":
    unittest.main()
