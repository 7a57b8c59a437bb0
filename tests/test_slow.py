import unittest
from fractions import Fraction

from drawingsbetween.drawings import at, chart, slow, turned
from tests.making import MOST, RIGHT_NAMES, WRONG_NAMES, ladder, signs, text_of, told

NAME = signs("stop")
OUT = (0, 7, 8, 32, 33, 63, 64, 65, 255, 256, 2 ** 32, 2 ** 32 + 1, 2 ** 63, MOST - 1, MOST)
NEITHER = (2, 3, 10, 48, 49, 255, 256, 2 ** 32, 2 ** 32 + 1, 2 ** 63, MOST - 1, MOST)
AT_ITS_END = ("1/2", "1/2 3/4", "1/2 3/4 7/8", "1/2 3/4 7/8 15/16", "1/2 3/4 7/8 15/16 31/32",
              "1/2 3/4 7/8 15/16 31/32 63/64")
AT_ITS_BEGINNING = ("1/2", "1/4 1/2", "1/8 1/4 1/2", "1/16 1/8 1/4 1/2", "1/32 1/16 1/8 1/4 1/2",
                    "1/64 1/32 1/16 1/8 1/4 1/2")


class EachCount(unittest.TestCase):
    def test_byte_by_byte(self):
        self.assertEqual(slow(2, 1, list(b"stop")), [19] + list(b"chart stop 1/2 3/4\n"))
        self.assertEqual(slow(2, 0, list(b"stop")), [19] + list(b"chart stop 1/4 1/2\n"))

    def test_at_its_end(self):
        for k in range(1, 7):
            self.assertEqual(slow(k, 1, NAME), told(signs(f"chart stop {AT_ITS_END[k - 1]}\n")))

    def test_at_its_beginning(self):
        for k in range(1, 7):
            self.assertEqual(slow(k, 0, NAME), told(signs(f"chart stop {AT_ITS_BEGINNING[k - 1]}\n")))

    def test_the_documents_own_words(self):
        for k in range(1, 7):
            ends = [1 - Fraction(1, 2 ** n) for n in range(1, k + 1)]
            beginnings = [Fraction(1, 2 ** n) for n in range(k, 0, -1)]
            self.assertEqual(slow(k, 1, NAME), told(signs(ladder(ends, "stop"))))
            self.assertEqual(slow(k, 0, NAME), told(signs(ladder(beginnings, "stop"))))

    def test_it_is_a_ladder_of_so_many(self):
        for k in range(1, 7):
            for e in (0, 1):
                text = text_of(slow(k, e, NAME))
                self.assertEqual(chart(text), [k])
                self.assertEqual(at(0 if e == 1 else k - 1, text), [1, 2])
                self.assertEqual(at(k, text), [-3])

    def test_turned_it_is_the_other_one(self):
        for k in range(1, 7):
            for e in (0, 1):
                self.assertEqual(turned(text_of(slow(k, e, NAME))), slow(k, 1 - e, NAME))


class Names(unittest.TestCase):
    def test_the_name_that_is_told(self):
        for name in RIGHT_NAMES:
            for k, e in ((1, 0), (1, 1), (6, 0), (6, 1)):
                start = signs("chart ") + name + [32]
                self.assertEqual(text_of(slow(k, e, name))[:len(start)], start)
                self.assertEqual(chart(text_of(slow(k, e, name))), [k])

    def test_names_that_are_none(self):
        for name in WRONG_NAMES:
            for k, e in ((1, 0), (1, 1), (6, 0), (6, 1)):
                self.assertEqual(slow(k, e, name), [-1], bytes(name))

    def test_names_of_0_to_100_signs(self):
        for count in range(101):
            for e in (0, 1):
                answer = slow(1, e, [122] * count)
                self.assertEqual(answer, told(signs("chart " + "z" * count + " 1/2\n")) if 1 <= count <= 16 else [-1])

    def test_each_byte_as_a_name_and_within_one(self):
        for sign in range(256):
            letter = 97 <= sign <= 122
            self.assertEqual(slow(1, 1, [sign]) == [-1], not letter, sign)
            self.assertEqual(slow(1, 0, [97, sign]) == [-1], not (letter or 48 <= sign <= 57), sign)


class Refused(unittest.TestCase):
    def test_k_out_of_range(self):
        for k in OUT:
            for e in (0, 1):
                self.assertEqual(slow(k, e, NAME), [-1])

    def test_neither_0_nor_1(self):
        for e in NEITHER:
            for k in range(1, 7):
                self.assertEqual(slow(k, e, NAME), [-1])

    def test_several_at_once(self):
        for k in (1, 6) + OUT:
            for e in (0, 1) + NEITHER:
                for name in WRONG_NAMES[:12] + RIGHT_NAMES[:6]:
                    if k in OUT or e in NEITHER or name in WRONG_NAMES:
                        self.assertEqual(slow(k, e, name), [-1])


if __name__ == "__main__":
    unittest.main()
