"""A drawing's text, byte by byte, at each call that reads one."""

import unittest

from drawingsbetween.drawings import apart, arced, between, fit, halves
from tests.making import drawing, fill, head, is_drawing, named, signs, stroke, told

GOOD = drawing()
MID = signs("mid")
CALLS = (fit, apart, lambda a, b: between(1, 2, a, b, MID), lambda a, b: halves(1, 1, a, b, MID))
SAMPLE = "drawing a1 20 9\nstroke b 10 0 -7,30 0,0\nstroke c2 1 16 5,-10\nfill 255 19,8\nfill 3 0,0\n"


class Reading(unittest.TestCase):
    def is_one(self, text):
        self.assertEqual(fit(text, text), [0], bytes(text[:200]))
        self.assertEqual(apart(text, text), [0, 0], bytes(text[:200]))
        # From a drawing to itself nothing moves: what was read is written byte by byte.
        again = told(named(text, "mid"))
        self.assertEqual(between(1, 2, text, text, MID), again, bytes(text[:200]))
        self.assertEqual(halves(1, 1, text, text, MID), again, bytes(text[:200]))
        self.assertEqual(arced(1, 4, text, text, text, MID), again, bytes(text[:200]))

    def is_none(self, text):
        for call in CALLS:
            self.assertEqual(call(text, GOOD), [-6], bytes(text[:200]))
            self.assertEqual(call(GOOD, text), [-5], bytes(text[:200]))
            self.assertEqual(call(text, text), [-6], bytes(text[:200]))
        self.assertEqual(arced(1, 4, text, GOOD, GOOD, MID), [-6], bytes(text[:200]))
        self.assertEqual(arced(1, 4, GOOD, text, GOOD, MID), [-5], bytes(text[:200]))
        self.assertEqual(arced(1, 4, GOOD, GOOD, text, MID), [-4], bytes(text[:200]))

    def ones(self, *texts):
        for text in texts:
            self.is_one(signs(text))

    def nones(self, *texts):
        for text in texts:
            self.is_none(signs(text))


class Ranges(Reading):
    def test_names(self):
        for name in ("a", "z", "a0", "z9", "abcdefghijklmnop", "a123456789012345", "stroke", "fill", "drawing"):
            self.ones(head(name), head() + stroke(name))
        bad = ["", "abcdefghijklmnopq", "0", "9a", "1", "A", "aB", "a_b", "a-b", "-a", "a,b", "a.b", "a\t", "a\0",
               "`", "{", "a`", "a{", "a/", "a:", "a\xe9", "\xff", "a" * 1000]
        for name in bad:
            self.nones(head(name), head() + stroke(name))

    def test_a_name_of_its_own_for_each_stroke(self):
        self.ones(head("s") + stroke("s") + stroke("t"))
        self.ones(head() + stroke("s") + stroke("s0") + stroke("s00"))
        self.nones(head() + stroke("s") + stroke("s"))
        self.nones(head() + stroke("s", 1, 2) + stroke("t") + stroke("s", 3, 4, [(5, 6)]))

    def test_paints(self):
        for paint in (1, 9, 10, 255):
            self.ones(head() + stroke(paint=paint), head() + fill(paint))
        for paint in (0, 256, 300, 1000, -1, -255, 10 ** 20):
            self.nones(head() + stroke(paint=paint), head() + fill(paint))

    def test_brushes(self):
        for brush in (0, 1, 9, 10, 16):
            self.ones(head() + stroke(brush=brush))
        for brush in (17, 20, 100, 1000, -1, -16, 10 ** 20):
            self.nones(head() + stroke(brush=brush))

    def test_places(self):
        for n in (-999, -100, -1, 0, 1, 10, 999):
            self.ones(head() + stroke(places=[(n, 0)]), head() + stroke(places=[(0, n)]))
        for n in (-1000, 1000, -9999, 9999, -(10 ** 20), 10 ** 20):
            self.nones(head() + stroke(places=[(n, 0)]), head() + stroke(places=[(0, n)]))
            self.nones(head() + stroke(places=[(0, 0), (1, n)]))

    def test_places_may_be_the_same_and_beyond_the_sheet(self):
        self.ones(head("a", 1, 1) + stroke(places=[(50, 50), (50, 50)]))

    def test_how_many_places(self):
        for count in (1, 2, 63, 64):
            self.ones(head() + stroke(places=[(1, 2)] * count))
        for count in (0, 65, 66, 1000):
            self.nones(head() + stroke(places=[(1, 2)] * count))
        self.nones(head() + "stroke s 1 0 \n", head() + "stroke s 1\n", head() + "stroke s\n", head() + "stroke\n")

    def test_how_many_strokes(self):
        for count, check in ((0, self.ones), (1, self.ones), (64, self.ones), (65, self.nones), (1000, self.nones)):
            strokes = "".join(stroke(f"s{i}") for i in range(count))
            check(head() + strokes, head() + strokes + fill())

    def test_how_many_fills(self):
        for count, check in ((0, self.ones), (1, self.ones), (64, self.ones), (65, self.nones), (1000, self.nones)):
            check(head() + fill() * count, head() + stroke() + fill() * count)

    def test_sizes(self):
        for size in (1, 9, 10, 255, 256):
            self.ones(head("a", size, 10), head("a", 10, size))
        for size in (0, 257, 300, 1000, -1, -256, 10 ** 20):
            self.nones(head("a", size, 10), head("a", 10, size))

    def test_fills_points(self):
        for width, height in ((1, 1), (20, 9), (9, 20), (256, 1), (1, 256), (256, 256)):
            top = head("a", width, height)
            for x in (0, width - 1):
                for y in (0, height - 1):
                    self.ones(top + fill(1, x, y))
            for x, y in ((width, 0), (0, height), (width, height), (-1, 0), (0, -1), (999, 0), (0, 1000)):
                self.nones(top + fill(1, x, y))


class Numbers(Reading):
    # Where each number of a text stands, and whether it may be below 0 there.
    STANDS = (
        ("drawing a {} 10\n", False), ("drawing a 10 {}\n", False),
        (head() + "stroke s {} 0 0,0\n", False), (head() + "stroke s 1 {} 0,0\n", False),
        (head() + "stroke s 1 0 {},0\n", True), (head() + "stroke s 1 0 0,{}\n", True),
        (head() + "stroke s 1 0 0,0 {},0\n", True), (head() + "stroke s 1 0 0,0 0,{}\n", True),
        (head() + "fill {} 0,0\n", False), (head() + "fill 1 {},0\n", False), (head() + "fill 1 0,{}\n", False),
    )
    WRONG = ("", "07", "007", "00", "000", "-0", "-00", "-07", "+7", "+0", "-", "+", "--7", "7-", "-7-", "- 7", " 7", "7 ",
             "7.", "7.0", "0x7", "7e0", "7_0", "a", "7a", "\xb2", "\xb3", "/", ":", "1/", "1:", "\t7", "7\t", "7\r",
             "7\0", "0" * 500, "1" * 500, "0" * 500 + "7")

    def test_one_form_only(self):
        for form, below in self.STANDS:
            self.ones(form.replace("{}", "7"))
            for wrong in self.WRONG:
                self.nones(form.replace("{}", wrong))

    def test_nought_by_itself(self):
        self.ones(head() + "stroke s 1 0 0,0\nfill 1 0,0\n")

    def test_below_0_in_places_alone(self):
        for form, below in self.STANDS:
            check = self.ones if below else self.nones
            check(form.replace("{}", "-7"))


class Marks(Reading):
    def test_the_sample(self):
        self.ones(SAMPLE)

    def test_missing_doubled_and_other_marks(self):
        for i, sign in enumerate(SAMPLE):
            if sign in " ,\n":
                before, behind = SAMPLE[:i], SAMPLE[i + 1:]
                self.nones(before + sign + sign + behind)
                if behind:
                    self.nones(before + behind)
                for other in set(" ,\n\t\r\0\x0b\x0c;.\xa0\x85") - {sign}:
                    self.nones(before + other + behind)

    def test_a_last_row_without_its_end(self):
        self.nones(SAMPLE[:-1], head()[:-1], head() + stroke()[:-1], head() + fill()[:-1])

    def test_other_rows_ends(self):
        self.nones(SAMPLE.replace("\n", "\r\n"), SAMPLE.replace("\n", "\r"), SAMPLE[:-1] + "\r", SAMPLE[:-1] + "\r\n")

    def test_blanks_at_a_rows_edges(self):
        self.nones(" " + SAMPLE, SAMPLE.replace("\n", " \n", 1), SAMPLE.replace("\n", "\n ", 1), SAMPLE + " ")

    def test_points_of_one_or_three_numbers(self):
        for point in ("0", "0,0,0", ",0", "0,", ",", "0,,0", "0, 0", "0 ,0", ",0,0", "0,0,"):
            self.nones(head() + f"stroke s 1 0 {point}\n", head() + f"fill 1 {point}\n")

    def test_too_many_or_too_few_pieces(self):
        self.nones("drawing a 1\n", "drawing a\n", "drawing\n", "drawing \n", "drawing a 1 1 1\n", "drawing a 1,1\n")
        self.nones(head() + "fill 1\n", head() + "fill\n", head() + "fill 1 0,0 0,0\n", head() + "fill s 1 0,0\n")


class Rows(Reading):
    def test_a_fill_before_a_stroke(self):
        self.ones(head() + stroke() + fill())
        self.nones(head() + fill() + stroke())
        self.nones(head() + stroke("s") + fill() + stroke("t"))

    def test_the_first_row(self):
        self.nones(stroke(), fill(), stroke() + head(), "\n", "\n" + head(), head() + head(), SAMPLE + SAMPLE)

    def test_words(self):
        for wrong in ("", "Drawing", "drawin", "drawings", "DRAWING", "chart", "stroke"):
            self.nones(SAMPLE.replace("drawing", wrong))
        for word in ("stroke", "fill"):
            for wrong in ("", word.upper(), word.title(), word[:-1], word + "s", "row", "drawing"):
                self.nones(SAMPLE.replace(word, wrong), SAMPLE.replace(word, wrong, 1))

    def test_empty_rows(self):
        self.nones(head() + "\n", head() + "\n" + stroke(), head() + stroke() + "\n" + fill(), SAMPLE + "\n")

    def test_empty_text(self):
        self.nones("")

    def test_bytes_behind_the_end(self):
        for sign in range(256):
            self.is_none(signs(SAMPLE) + [sign])
            self.is_none(GOOD + [sign])

    def test_cut_off_anywhere(self):
        for count in range(len(SAMPLE)):
            check = self.ones if SAMPLE[:count].endswith("\n") else self.nones
            check(SAMPLE[:count])


class AgainstThePattern(Reading):
    def check(self, text):
        if is_drawing(bytes(text)):
            self.is_one(text)
        else:
            self.is_none(text)

    def test_the_pattern_itself(self):
        self.assertTrue(is_drawing(SAMPLE.encode()))
        self.assertFalse(is_drawing(SAMPLE.encode()[:-1]))

    def test_each_byte_put_in_each_place(self):
        text = signs(SAMPLE)
        for i in range(len(text)):
            for sign in range(256):
                self.check(text[:i] + [sign] + text[i + 1:])

    def test_each_byte_pushed_in_at_each_place(self):
        text = signs(SAMPLE)
        for i in range(len(text) + 1):
            for sign in signs("\n ,-+09az\x80\xff"):
                self.check(text[:i] + [sign] + text[i:])

    def test_each_stretch_left_out(self):
        text = signs(SAMPLE)
        for i in range(len(text)):
            for k in range(i + 1, len(text) + 1):
                self.check(text[:i] + text[k:])

    def test_bytes_from_128_on(self):
        text = signs(SAMPLE)
        for i in range(len(text)):
            for sign in (128, text[i] + 128, 255):
                self.is_none(text[:i] + [sign] + text[i + 1:])


if __name__ == "__main__":
    unittest.main()
