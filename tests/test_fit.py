import unittest

from drawingsbetween.drawings import fit
from tests.making import drawing, fill, greatest, signs, stroke

NONE = signs("no drawing")


class TwoThatFit(unittest.TestCase):
    def check(self, a, b):
        self.assertEqual(fit(a, b), [0])
        self.assertEqual(fit(b, a), [0])

    def test_ordinary(self):
        a = drawing(stroke("arm", 3, 2, [(1, 2), (3, 4)]), stroke("leg", 4, 0, [(5, 5)]), fill(7, 1, 1))
        b = drawing(stroke("arm", 3, 2, [(-9, 0), (8, 99)]), stroke("leg", 4, 0, [(0, 0)]), fill(7, 9, 0))
        self.check(a, b)

    def test_the_same_one(self):
        a = drawing(stroke(), fill())
        self.check(a, a)

    def test_own_names_differ(self):
        self.check(drawing(stroke(), fill(), name="a"), drawing(stroke(), fill(), name="b2345678"))

    def test_no_strokes_and_no_fills(self):
        self.check(drawing(name="a"), drawing(name="b"))

    def test_strokes_alone_and_fills_alone(self):
        self.check(drawing(stroke()), drawing(stroke(places=[(7, 7)])))
        self.check(drawing(fill()), drawing(fill(1, 9, 9)))

    def test_fills_may_be_the_same(self):
        self.check(drawing(fill(), fill()), drawing(fill(), fill()))

    def test_as_much_as_can_be(self):
        a = greatest("a" * 16, (-999, -999), (0, 0))
        b = greatest("b", (999, 999), (255, 255))
        self.assertLessEqual(len(a), 55000)
        self.check(a, b)


class WhyNot(unittest.TestCase):
    def check(self, a, b, kind, number):
        self.assertEqual(fit(a, b), [-8, kind, number])
        self.assertEqual(fit(b, a), [-8, kind, number])

    def test_1_size(self):
        self.check(drawing(width=10), drawing(width=11), 1, 0)
        self.check(drawing(height=10), drawing(height=11), 1, 0)
        self.check(drawing(width=10, height=11), drawing(width=11, height=10), 1, 0)

    def test_2_how_many_strokes(self):
        self.check(drawing(), drawing(stroke()), 2, 0)
        self.check(drawing(stroke("s")), drawing(stroke("s"), stroke("t")), 2, 0)

    def at_each_stroke(self, other, kind):
        names = [f"s{i}" for i in range(64)]
        a = [stroke(name) for name in names]
        for i in (0, 1, 31, 63):
            b = a[:i] + [other(names[i])] + a[i + 1:]
            self.check(drawing(*a), drawing(*b), kind, i)

    def test_3_names(self):
        self.at_each_stroke(lambda name: stroke("other"), 3)

    def test_3_one_name_begins_the_other(self):
        self.check(drawing(stroke("ab")), drawing(stroke("abc")), 3, 0)

    def test_3_the_same_names_in_another_order(self):
        self.check(drawing(stroke("s"), stroke("t")), drawing(stroke("t"), stroke("s")), 3, 0)

    def test_4_paints(self):
        self.at_each_stroke(lambda name: stroke(name, paint=2), 4)

    def test_5_brushes(self):
        self.at_each_stroke(lambda name: stroke(name, brush=1), 5)

    def test_6_how_many_places(self):
        self.at_each_stroke(lambda name: stroke(name, places=[(0, 0), (0, 0)]), 6)

    def test_6_even_if_there_are_as_many_in_all(self):
        one, two = [(0, 0)], [(0, 0), (1, 1)]
        a = drawing(stroke("s", places=one), stroke("t", places=two))
        b = drawing(stroke("s", places=two), stroke("t", places=one))
        self.check(a, b, 6, 0)

    def test_7_how_many_fills(self):
        self.check(drawing(), drawing(fill()), 7, 0)
        self.check(drawing(stroke(), fill()), drawing(stroke(), fill(), fill()), 7, 0)

    def test_8_fills_paints(self):
        a = [fill(1)] * 64
        for i in (0, 1, 31, 63):
            b = a[:i] + [fill(2)] + a[i + 1:]
            self.check(drawing(*a), drawing(*b), 8, i)

    def test_8_the_same_paints_in_another_order(self):
        self.check(drawing(fill(1), fill(2)), drawing(fill(2), fill(1)), 8, 0)


class TheFirstOne(unittest.TestCase):
    """Each kind, where all the later ones hold too."""

    LATER = [stroke("t", 2, 1, [(0, 0), (1, 1)]), fill(2), fill(2)]

    def test_1_before_all(self):
        b = drawing(stroke("u"), *self.LATER, width=11)
        self.assertEqual(fit(drawing(stroke("s"), fill()), b), [-8, 1, 0])

    def test_2_before_the_strokes(self):
        b = drawing(stroke("u"), *self.LATER)
        self.assertEqual(fit(drawing(stroke("s"), fill()), b), [-8, 2, 0])

    def test_3_to_8_one_after_another(self):
        more = [(0, 0), (1, 1)]
        a = drawing(stroke("s", 1, 0), fill(1))
        self.assertEqual(fit(a, drawing(stroke("t", 2, 1, more), fill(2), fill(2))), [-8, 3, 0])
        self.assertEqual(fit(a, drawing(stroke("s", 2, 1, more), fill(2), fill(2))), [-8, 4, 0])
        self.assertEqual(fit(a, drawing(stroke("s", 1, 1, more), fill(2), fill(2))), [-8, 5, 0])
        self.assertEqual(fit(a, drawing(stroke("s", 1, 0, more), fill(2), fill(2))), [-8, 6, 0])
        self.assertEqual(fit(a, drawing(stroke("s", 1, 0), fill(2), fill(2))), [-8, 7, 0])
        self.assertEqual(fit(a, drawing(stroke("s", 1, 0), fill(2))), [-8, 8, 0])

    def test_an_earlier_stroke_before_an_earlier_kind(self):
        a = drawing(stroke("s"), stroke("t"), stroke("u"))
        b = drawing(stroke("s"), stroke("t", places=[(0, 0), (1, 1)]), stroke("other"))
        self.assertEqual(fit(a, b), [-8, 6, 1])
        b = drawing(stroke("s", brush=1), stroke("t", paint=2), stroke("other"))
        self.assertEqual(fit(a, b), [-8, 5, 0])

    def test_the_last_stroke_before_the_fills(self):
        a = drawing(stroke("s"), stroke("t"), fill(1))
        b = drawing(stroke("s"), stroke("t", places=[(0, 0), (1, 1)]), fill(2), fill(2))
        self.assertEqual(fit(a, b), [-8, 6, 1])

    def test_the_first_of_two_fills(self):
        a = drawing(fill(1), fill(1), fill(1))
        self.assertEqual(fit(a, drawing(fill(1), fill(2), fill(2))), [-8, 8, 1])


class Refused(unittest.TestCase):
    def test_first_second_and_both(self):
        a = drawing(stroke())
        self.assertEqual(fit(NONE, a), [-6])
        self.assertEqual(fit(a, NONE), [-5])
        self.assertEqual(fit(NONE, NONE), [-6])

    def test_unfit_only_if_both_are_drawings(self):
        wide = drawing(width=11)
        self.assertEqual(fit(wide, drawing(stroke("t"), stroke("t"))), [-5])
        self.assertEqual(fit(drawing(stroke("t"), stroke("t")), wide), [-6])
        self.assertEqual(fit(wide, drawing(stroke("t"))), [-8, 1, 0])

    def test_too_long_comes_first(self):
        a = drawing()
        self.assertEqual(fit([10] * 65537, a), [-2])
        self.assertEqual(fit(a, [10] * 65537), [-2])
        self.assertEqual(fit(NONE, [10] * 65537), [-2])
        self.assertEqual(fit([10] * 65536, a), [-6])
        self.assertEqual(fit(a, [10] * 65536), [-5])


if __name__ == "__main__":
    unittest.main()
