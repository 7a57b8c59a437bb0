import unittest

from drawingsbetween.drawings import at, chart, turned
from tests.making import ALL, RIGHT_NAMES, fractions_of, ladder, no_ladders, signs, some_ladders, text_of, told

SAMPLE = signs("chart swing1 1/64 9/31 1/2 11/20 62/63 63/64\n")


class Turned(unittest.TestCase):
    def turns(self, text, expected):
        self.assertEqual(turned(signs(text)), told(signs(expected)), text)
        self.assertEqual(turned(signs(expected)), told(signs(text)), expected)


class ByHand(Turned):
    def test_a_text_byte_by_byte(self):
        answer = turned(list(b"chart walk 1/4 2/3\n"))
        self.assertEqual(answer, [19] + list(b"chart walk 1/3 3/4\n"))

    def test_one(self):
        self.turns("chart a 1/3\n", "chart a 2/3\n")
        self.turns("chart a 1/10\n", "chart a 9/10\n")

    def test_a_half_alone(self):
        self.turns("chart a 1/2\n", "chart a 1/2\n")

    def test_two(self):
        self.turns("chart a 1/2 2/3\n", "chart a 1/3 1/2\n")
        self.turns("chart a 1/5 4/5\n", "chart a 1/5 4/5\n")

    def test_the_least_and_the_greatest(self):
        self.turns("chart a 1/64\n", "chart a 63/64\n")
        self.turns("chart a 1/64 63/64\n", "chart a 1/64 63/64\n")
        self.turns("chart a 1/64 1/63\n", "chart a 62/63 63/64\n")

    def test_more_or_fewer_digits(self):
        self.turns("chart a 1/11 1/10 1/2\n", "chart a 1/2 9/10 10/11\n")
        self.turns("chart swing1 1/64 9/31 1/2 11/20 62/63 63/64\n", "chart swing1 1/64 1/63 9/20 1/2 22/31 63/64\n")

    def test_an_even_one_is_the_same(self):
        self.turns("chart a 1/4 1/2 3/4\n", "chart a 1/4 1/2 3/4\n")


class Every(Turned):
    def test_every_fraction_by_itself(self):
        for f in ALL:
            self.turns(ladder([f]), ladder([1 - f]))

    def test_every_fraction_and_the_next_one(self):
        for one, other in zip(ALL, ALL[1:]):
            self.turns(ladder([one, other]), ladder([1 - other, 1 - one]))

    def test_many_ladders(self):
        for fractions in some_ladders():
            self.turns(ladder(fractions, "walk2"), ladder([1 - f for f in reversed(fractions)], "walk2"))

    def test_32(self):
        for fractions in (ALL[:32], ALL[-32:], ALL[::39][:32]):
            text = text_of(turned(signs(ladder(fractions))))
            self.assertEqual(chart(text), [32])
            self.assertEqual(fractions_of(text), [(f.denominator - f.numerator, f.denominator) for f in reversed(fractions)])

    def test_it_is_a_ladder_with_as_many(self):
        for fractions in some_ladders():
            text = signs(ladder(fractions))
            self.assertEqual(chart(text_of(turned(text))), chart(text))

    def test_each_fraction_is_1_less_the_one_as_far_from_the_other_end(self):
        for fractions in some_ladders()[::3]:
            text = signs(ladder(fractions))
            other = text_of(turned(text))
            for i in range(len(fractions)):
                p, q = at(i, text)
                self.assertEqual(at(len(fractions) - 1 - i, other), [q - p, q])

    def test_twice_it_is_the_same_text(self):
        for fractions in some_ladders():
            text = signs(ladder(fractions, "a123456789012345"))
            self.assertEqual(turned(text_of(turned(text))), told(text))


class Names(Turned):
    def test_the_same_name(self):
        for name in RIGHT_NAMES:
            name = bytes(name).decode()
            self.turns(ladder(ALL[:2], name), ladder(ALL[-2:], name))

    def test_names_of_1_to_16_signs(self):
        for count in range(1, 17):
            name = "z1y2x3w4v5u6t7s8"[:count]
            self.turns(f"chart {name} 1/3\n", f"chart {name} 2/3\n")


class Refused(unittest.TestCase):
    def test_texts_that_are_none(self):
        for text in no_ladders():
            self.assertEqual(turned(text), [-6], bytes(text))

    def test_cut_off_anywhere(self):
        for text in (SAMPLE, signs(ladder(ALL[:32]))):
            for count in range(len(text)):
                self.assertEqual(turned(text[:count]), [-6])

    def test_bytes_behind_its_end(self):
        for sign in range(256):
            self.assertEqual(turned(SAMPLE + [sign]), [-6])

    def test_33_fractions(self):
        self.assertEqual(turned(signs(ladder(ALL[:33]))), [-6])
        self.assertEqual(turned(signs(ladder(ALL[-33:]))), [-6])

    def test_too_long_before_the_others(self):
        for text in (SAMPLE, [], signs("chart a 2/4\n"), signs(ladder(ALL[:32]))):
            for more in (0, 10, 32, 97, 255):
                grown = (text + [more] * 100000)[:100000]
                self.assertEqual(turned(grown[:65536]), [-6])
                self.assertEqual(turned(grown[:65537]), [-2])
                self.assertEqual(turned(grown), [-2])


if __name__ == "__main__":
    unittest.main()
