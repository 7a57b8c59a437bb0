import unittest
from fractions import Fraction
from math import gcd

from drawingsbetween.drawings import at, chart, even, turned
from tests.making import MOST, RIGHT_NAMES, WRONG_NAMES, fractions_of, ladder, signs, text_of, told

NAME = signs("walk")
OUT = (0, 33, 34, 63, 64, 65, 255, 256, 2 ** 32, 2 ** 32 + 1, 2 ** 63, 2 ** 64 - 32, MOST - 1, MOST)


class EachCount(unittest.TestCase):
    def test_byte_by_byte(self):
        self.assertEqual(even(3, list(b"walk")), [23] + list(b"chart walk 1/4 1/2 3/4\n"))

    def test_some_by_hand(self):
        for k, text in ((1, "1/2"), (2, "1/3 2/3"), (4, "1/5 2/5 3/5 4/5"), (5, "1/6 1/3 1/2 2/3 5/6"),
                        (7, "1/8 1/4 3/8 1/2 5/8 3/4 7/8"), (9, "1/10 1/5 3/10 2/5 1/2 3/5 7/10 4/5 9/10"),
                        (11, "1/12 1/6 1/4 1/3 5/12 1/2 7/12 2/3 3/4 5/6 11/12")):
            self.assertEqual(even(k, NAME), told(signs(f"chart walk {text}\n")))

    def test_every_count(self):
        for k in range(1, 33):
            fractions = [Fraction(p, k + 1) for p in range(1, k + 1)]
            self.assertEqual(even(k, NAME), told(signs(ladder(fractions, "walk"))), k)

    def test_in_least_terms_and_as_far_apart_each(self):
        for k in range(1, 33):
            pieces = fractions_of(text_of(even(k, NAME)))
            self.assertEqual([gcd(p, q) for p, q in pieces], [1] * k)
            rungs = [Fraction(0)] + [Fraction(p, q) for p, q in pieces] + [Fraction(1)]
            self.assertEqual({other - one for one, other in zip(rungs, rungs[1:])}, {Fraction(1, k + 1)})

    def test_it_is_a_ladder_of_so_many(self):
        for k in range(1, 33):
            text = text_of(even(k, NAME))
            self.assertEqual(chart(text), [k])
            for i in range(k):
                p, q = at(i, text)
                self.assertEqual(p * (k + 1), (i + 1) * q)
            self.assertEqual(at(k, text), [-3])

    def test_turned_it_is_the_same(self):
        for k in range(1, 33):
            self.assertEqual(turned(text_of(even(k, NAME))), even(k, NAME))


class Names(unittest.TestCase):
    def test_the_name_that_is_told(self):
        for name in RIGHT_NAMES:
            for k in (1, 2, 32):
                start = signs("chart ") + name + [32]
                self.assertEqual(text_of(even(k, name))[:len(start)], start)
                self.assertEqual(chart(text_of(even(k, name))), [k])

    def test_names_that_are_none(self):
        for name in WRONG_NAMES:
            for k in (1, 2, 31, 32):
                self.assertEqual(even(k, name), [-1], bytes(name))

    def test_names_of_0_to_100_signs(self):
        for count in range(101):
            answer = even(1, [122] * count)
            self.assertEqual(answer, told(signs("chart " + "z" * count + " 1/2\n")) if 1 <= count <= 16 else [-1])

    def test_each_byte_as_a_name_and_within_one(self):
        for sign in range(256):
            letter = 97 <= sign <= 122
            self.assertEqual(even(1, [sign]) == [-1], not letter, sign)
            self.assertEqual(even(1, [97, sign]) == [-1], not (letter or 48 <= sign <= 57), sign)


class Refused(unittest.TestCase):
    def test_out_of_range(self):
        for k in OUT:
            self.assertEqual(even(k, NAME), [-1])

    def test_both_at_once(self):
        for k in OUT:
            for name in WRONG_NAMES + RIGHT_NAMES:
                self.assertEqual(even(k, name), [-1])

    def test_just_within(self):
        self.assertEqual((even(1, NAME)[0], chart(text_of(even(32, NAME)))), (15, [32]))


if __name__ == "__main__":
    unittest.main()
