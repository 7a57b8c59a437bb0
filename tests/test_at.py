import unittest

from drawingsbetween.drawings import at, chart
from tests.making import ALL, MOST, RIGHT_NAMES, fractions_of, ladder, no_ladders, signs, some_ladders

SAMPLE = signs("chart swing1 1/64 9/31 1/2 11/20 62/63 63/64\n")
# Numbers of which no ladder has that many fractions.
BEYOND = (32, 33, 63, 64, 255, 256, 65535, 65536, 2 ** 31, 2 ** 32, 2 ** 63 - 1, 2 ** 63, MOST - 1, MOST)


class EachFraction(unittest.TestCase):
    def test_ordinary(self):
        text = signs("chart walk 1/4 1/2 3/4\n")
        self.assertEqual([at(i, text) for i in range(4)], [[1, 4], [1, 2], [3, 4], [-3]])

    def test_a_ladder_of_one(self):
        self.assertEqual(at(0, signs("chart a 1/2\n")), [1, 2])
        self.assertEqual(at(1, signs("chart a 1/2\n")), [-3])

    def test_a_ladder_of_32(self):
        for fractions in (ALL[:32], ALL[-32:], ALL[::39][:32]):
            text = signs(ladder(fractions))
            self.assertEqual(at(0, text), [fractions[0].numerator, fractions[0].denominator])
            self.assertEqual(at(31, text), [fractions[31].numerator, fractions[31].denominator])
            self.assertEqual(at(32, text), [-3])

    def test_31_and_32_of_a_ladder_of_31(self):
        text = signs(ladder(ALL[:31]))
        self.assertEqual([at(30, text), at(31, text), at(32, text)], [[1, 34], [-3], [-3]])

    def test_each_fraction_of_many_ladders(self):
        for fractions in some_ladders():
            text = signs(ladder(fractions))
            for i, f in enumerate(fractions):
                self.assertEqual(at(i, text), [f.numerator, f.denominator])
            self.assertEqual(at(len(fractions), text), [-3])

    def test_every_fraction_by_itself(self):
        for f in ALL:
            self.assertEqual(at(0, signs(ladder([f]))), [f.numerator, f.denominator])

    def test_as_they_stand_in_the_text(self):
        self.assertEqual([tuple(at(i, SAMPLE)) for i in range(6)], fractions_of(SAMPLE))

    def test_as_many_as_chart_tells(self):
        for fractions in some_ladders()[::5]:
            text = signs(ladder(fractions))
            there = [i for i in range(40) if at(i, text) != [-3]]
            self.assertEqual([len(there)], chart(text))

    def test_whatever_the_name(self):
        for name in RIGHT_NAMES:
            text = signs(ladder(ALL[:2], bytes(name).decode()))
            self.assertEqual([at(i, text) for i in range(3)], [[1, 64], [1, 63], [-3]])


class NoSuchFraction(unittest.TestCase):
    def test_far_beyond(self):
        for fractions in (ALL[:1], ALL[-1:], ALL[:2], ALL[600:632]):
            for i in BEYOND:
                self.assertEqual(at(i, signs(ladder(fractions))), [-3], i)

    def test_one_beyond(self):
        for count in range(1, 33):
            self.assertEqual(at(count, signs(ladder(ALL[:count]))), [-3])


class Refused(unittest.TestCase):
    def none(self, text):
        """Refused so before an i that there can't be, too."""
        for i in (0, 1, 31, 32, MOST):
            self.assertEqual(at(i, text), [-6], bytes(text))

    def test_texts_that_are_none(self):
        for text in no_ladders():
            self.none(text)

    def test_none_even_if_the_fraction_itself_could_be_read(self):
        self.none(signs("chart a 1/2 2/4\n"))
        self.none(signs("chart a 1/2 1/3\n"))
        self.none(signs("chart a 1/2 3/4"))
        self.none(signs("chart a 1/2\n\n"))

    def test_cut_off_anywhere(self):
        for count in range(len(SAMPLE)):
            self.none(SAMPLE[:count])

    def test_bytes_behind_its_end(self):
        for sign in range(256):
            self.none(SAMPLE + [sign])

    def test_33_fractions(self):
        self.none(signs(ladder(ALL[:33])))
        self.none(signs(ladder(ALL[-33:])))

    def test_too_long_before_the_others(self):
        for text in (SAMPLE, [], signs("chart a 2/4\n"), signs(ladder(ALL[:32]))):
            for more in (0, 10, 32, 97, 255):
                grown = (text + [more] * 100000)[:100000]
                for i in (0, 6, 32, MOST):
                    self.assertEqual(at(i, grown[:65536]), [-6])
                    self.assertEqual(at(i, grown[:65537]), [-2])
                    self.assertEqual(at(i, grown), [-2])


if __name__ == "__main__":
    unittest.main()
