"""What the document promises over the whole program, C1 to C6 and the one sentence, at many drawings and ladders."""

import unittest
from fractions import Fraction

from drawingsbetween.drawings import apart, arced, at, between, chart, even, fit, halves, slow, turned
from tests.making import ALL, RIGHT_NAMES, Sequence, drawing, ends, fractions_of, greatest, is_drawing, ladder, named
from tests.making import numbers, shaped, signs, some_ladders, text_of, told

MID = signs("mid")
STEPS = [(k, m) for m in range(5) for k in range(2 ** m + 1)]


def every_way():
    """Two that fit, with each difference that two numbers can have, and each one that two fills' points can have."""
    ways = range(-1998, 1999)
    xs = [-999 + max(0, -way) if way % 3 else 999 - max(0, way) for way in ways]
    spots = [max(0, -way) for way in range(-64, 64)]
    one = shaped("one", xs, spots)
    two = shaped("two", [x + way for x, way in zip(xs, ways)], [x + way for x, way in zip(spots, range(-64, 64))])
    return one, two


def many_pairs():
    """Two that fit, thrown ones and the greatest."""
    thrown = Sequence(1)
    pairs = [thrown.fitting(2, 5, 6, 6) for _ in range(60)]
    pairs += [thrown.fitting(2, 12, 40, 64) for _ in range(4)]
    pairs.append([greatest("a", (99, -99), (0, 255)), greatest("b", (-999, 99), (255, 0))])
    pairs += [ends(), every_way(), (drawing(name="a"), drawing(name="b"))]
    return pairs


def many_ladders():
    thrown = Sequence(2)
    texts = [thrown.ladder() for _ in range(60)]
    texts += [text_of(even(k, signs("even"))) for k in range(1, 33)]
    texts += [text_of(slow(k, e, signs("slow"))) for k in range(1, 7) for e in (0, 1)]
    return texts + [signs(ladder(fractions)) for fractions in some_ladders()[::4]]


def drawn(p, q, a, b):
    return text_of(between(p, q, a, b, MID))


class Promises(unittest.TestCase):
    def onwards(self, a, b, row):
        """From a on, one drawing behind another, to b, no number goes back."""
        steps = [numbers(text) for text in (a, *row, b)]
        for way in zip(*steps, strict=True):
            self.assertEqual(list(way), sorted(way, reverse=way[0] > way[-1]))

    def by_less_than_a_point(self, text, p, q, a, b):
        """Twice the distance from the true one is at most 1."""
        for x, u, n in zip(numbers(a), numbers(b), numbers(text), strict=True):
            self.assertLessEqual(2 * abs(q * (n - x) - p * (u - x)), q)


class C1Ladders(Promises):
    def test_one_text(self):
        for text in many_ladders():
            pieces = [at(i, text) for i in range(chart(text)[0])]
            name = bytes(text).split(b" ")[1].decode()
            self.assertEqual(signs(ladder([Fraction(p, q) for p, q in pieces], name)), text)
            self.assertEqual(fractions_of(text), [tuple(piece) for piece in pieces])

    def test_whatever_else_is_one_has_other_fractions_or_another_name(self):
        text = text_of(slow(6, 0, signs("a1")))
        for i in range(len(text)):
            for sign in signs("\n /0123456789az"):
                for other in (text[:i] + [sign] + text[i + 1:], text[:i] + [sign] + text[i:], text[:i] + text[i + 1:]):
                    if other != text and chart(other)[0] != -6:
                        same = bytes(other).split(b" ")[1] == b"a1"
                        self.assertFalse(same and fractions_of(other) == fractions_of(text), bytes(other))

    def test_one_first_fault(self):
        for text in many_ladders()[::5]:
            for i in range(0, len(text), 3):
                broken = text[:i] + [0] + text[i:]
                self.assertEqual(chart(broken), [-6, i])
                self.assertEqual((turned(broken), at(0, broken)), ([-6], [-6]))

    def test_turned_twice_it_is_the_same(self):
        for text in many_ladders():
            other = turned(text)
            self.assertEqual(turned(text_of(other)), told(text))

    def test_turned_it_is_another_one_if_it_is_not_even(self):
        for text in many_ladders():
            fractions = [Fraction(*piece) for piece in fractions_of(text)]
            same = fractions == [1 - f for f in reversed(fractions)]
            self.assertEqual(turned(text) == told(text), same)

    def test_made_ones_turned(self):
        for name in RIGHT_NAMES[:3]:
            for k in range(1, 33):
                self.assertEqual(turned(text_of(even(k, name))), even(k, name))
            for k in range(1, 7):
                self.assertEqual(turned(text_of(slow(k, 0, name))), slow(k, 1, name))


class C2Between(Promises):
    def test_at_the_ends(self):
        for a, b in many_pairs():
            for q in (1, 2, 3, 31, 64):
                self.assertEqual(drawn(0, q, a, b), named(a, "mid"))
                self.assertEqual(drawn(q, q, a, b), named(b, "mid"))

    def test_from_the_other_end_and_by_less_than_a_point(self):
        thrown = Sequence(3)
        for a, b in many_pairs():
            for _ in range(6):
                q = 1 + thrown.below(64)
                p = thrown.below(q + 1)
                text = drawn(p, q, a, b)
                self.assertEqual(drawn(q - p, q, b, a), text)
                self.by_less_than_a_point(text, p, q, a, b)

    def test_where_halves_are_met_in_every_way(self):
        a, b = every_way()
        for q in (1, 2, 4, 6, 32, 62, 63, 64):
            for p in sorted({0, 1, q // 2, q - 1}):
                text = drawn(p, q, a, b)
                self.assertEqual(drawn(q - p, q, b, a), text)
                self.by_less_than_a_point(text, p, q, a, b)
                for x, u, n in zip(numbers(a), numbers(b), numbers(text), strict=True):
                    if 2 * abs(q * (n - x) - p * (u - x)) == q:
                        self.assertGreater(q * (n - x), p * (u - x))


class C3NeverBack(Promises):
    def test_as_p_grows(self):
        for i, (a, b) in enumerate(many_pairs()):
            q = 64 - i % 64
            self.onwards(a, b, [drawn(p, q, a, b) for p in range(0, q + 1, 1 + len(a) // 4000)])

    def test_through_all_fractions_that_there_are(self):
        a, b = ends()
        self.onwards(a, b, [drawn(f.numerator, f.denominator, a, b) for f in ALL])

    def test_in_every_way(self):
        a, b = every_way()
        self.onwards(a, b, [drawn(f.numerator, f.denominator, a, b) for f in ALL[::40]])


class C4Halves(Promises):
    def test_beside_what_is_between(self):
        for a, b in many_pairs():
            for k, m in STEPS[::1 + len(a) // 4000]:
                ones, others = numbers(text_of(halves(k, m, a, b, MID))), numbers(drawn(k, 2 ** m, a, b))
                self.assertLessEqual({one - other for one, other in zip(ones, others, strict=True)}, {0, 1})

    def test_in_every_way(self):
        a, b = every_way()
        for k, m in STEPS:
            ones, others = numbers(text_of(halves(k, m, a, b, MID))), numbers(drawn(k, 2 ** m, a, b))
            self.assertLessEqual({one - other for one, other in zip(ones, others, strict=True)}, {0, 1})

    def test_never_back(self):
        for a, b in many_pairs():
            m = 2 if len(a) > 4000 else 4
            self.onwards(a, b, [text_of(halves(k, m, a, b, MID)) for k in range(2 ** m + 1)])


class C5Arced(Promises):
    def test_at_0_a_half_and_1(self):
        thrown = Sequence(5)
        for _ in range(60):
            a, way, b = thrown.fitting(3, 6, 10, 6)
            for q in (1, 2, 7, 32, 64):
                self.assertEqual(arced(0, q, a, way, b, MID), told(named(a, "mid")))
                self.assertEqual(arced(q, q, a, way, b, MID), told(named(b, "mid")))
                if q % 2 == 0:
                    self.assertEqual(arced(q // 2, q, a, way, b, MID), told(named(way, "mid")))

    def test_the_greatest(self):
        a, way, b = [greatest(name, (n, -n), (255 - n, n)) for name, n in (("a", 9), ("way", 99), ("b", 5))]
        for texts in ((a, way, b), (b, way, a)):
            for p, i in ((0, 0), (1, 1), (2, 2)):
                self.assertEqual(arced(p, 2, *texts, MID), told(named(texts[i], "mid")))

    def test_halfway_it_is_what_is_between(self):
        ways = range(-1998, 1999, 2)
        xs = [-999 + max(0, -way) for way in ways]
        spots = [max(0, -way) for way in range(-64, 64, 2)]
        a, way, b = [shaped(name, [x + way * part // 2 for x, way in zip(xs, ways)],
                            [x + way * part // 2 for x, way in zip(spots, range(-64, 64, 2))])
                     for part, name in enumerate(("one", "way", "two"))]
        for f in ALL[::50] + [Fraction(0, 1), Fraction(1, 2), Fraction(1, 1)]:
            p, q = f.numerator, f.denominator
            self.assertEqual(text_of(arced(p, q, a, way, b, MID)), drawn(p, q, a, b))

    def test_the_same_from_the_other_end(self):
        thrown = Sequence(6)
        seen = set()
        for _ in range(200):
            a, way, b = thrown.fitting(3, 3, 3, 3)
            q = 1 + thrown.below(64)
            p = thrown.below(q + 1)
            answer = arced(p, q, a, way, b, MID)
            self.assertEqual(arced(q - p, q, b, way, a, MID), answer)
            seen.add(answer == [-3])
        self.assertEqual(seen, {False, True})


class C6Fits(Promises):
    def fits(self, text, *others):
        self.assertTrue(is_drawing(bytes(text)))
        for other in others:
            self.assertEqual((fit(text, other), fit(other, text)), ([0], [0]))

    def test_what_is_between(self):
        thrown = Sequence(7)
        for a, b in many_pairs():
            q = 1 + thrown.below(64)
            self.fits(drawn(thrown.below(q + 1), q, a, b), a, b)
            k, m = thrown.one_of(STEPS)
            self.fits(text_of(halves(k, m, a, b, MID)), a, b)

    def test_what_is_arced(self):
        thrown = Sequence(8)
        there = 0
        for _ in range(100):
            a, way, b = thrown.fitting(3, 2, 2, 2)
            q = 1 + thrown.below(64)
            answer = arced(thrown.below(q + 1), q, a, way, b, MID)
            if answer != [-3]:
                self.fits(text_of(answer), a, way, b)
                there += 1
        self.assertGreater(there, 20)

    def test_no_farther_from_an_end_than_the_ends_are(self):
        for a, b in many_pairs()[::3]:
            text = drawn(3, 7, a, b)
            for end in (a, b):
                for near, far in zip(apart(end, text), apart(a, b), strict=True):
                    self.assertLessEqual(near, far)


class TheOneSentence(Promises):
    def row(self, text, a, b):
        """What the ladder says is between them."""
        return [drawn(*at(i, text), a, b) for i in range(chart(text)[0])]

    def test_where_its_ladder_says(self):
        thrown = Sequence(9)
        for text in many_ladders()[::2]:
            a, b = thrown.fitting(2, 3, 4, 4)
            row = self.row(text, a, b)
            for i, between_them in enumerate(row):
                self.by_less_than_a_point(between_them, *at(i, text), a, b)
            self.assertEqual(self.row(text_of(turned(text)), b, a), row[::-1])
            self.onwards(a, b, row)

    def test_in_every_way(self):
        a, b = every_way()
        for text in (text_of(even(5, MID)), text_of(slow(6, 0, MID)), text_of(slow(6, 1, MID)), Sequence(10).ladder()):
            row = self.row(text, a, b)
            for i, between_them in enumerate(row):
                self.by_less_than_a_point(between_them, *at(i, text), a, b)
            self.assertEqual(self.row(text_of(turned(text)), b, a), row[::-1])
            self.onwards(a, b, row)


if __name__ == "__main__":
    unittest.main()
