import re
import unittest
from functools import lru_cache

from drawingsbetween.drawings import chart
from tests.making import ALL, RIGHT_NAMES, WRONG_NAMES, ladder, no_ladders, signs, some_ladders

FORMS = {f"{f.numerator}/{f.denominator}": f for f in ALL}
# The greatest fraction among those whose form begins so.
BEST = {form[:n]: f for f in ALL for form in [f"{f.numerator}/{f.denominator}"] for n in range(len(form) + 1)}
SAMPLE = "chart swing1 1/64 9/31 1/2 11/20 62/63 63/64\n"


def rising(pieces):
    """The fractions, or None if they can't stand one behind another."""
    if not all(piece in FORMS for piece in pieces):
        return None
    fractions = [FORMS[piece] for piece in pieces]
    return fractions if all(one < other for one, other in zip(fractions, fractions[1:])) else None


@lru_cache(maxsize=None)
def begins(text):
    """Whether some ladder's text begins with this one: held against every fraction that there is."""
    if len(text) <= 6:
        return "chart ".startswith(text)
    name, *pieces = text[6:].split(" ")
    if not text.startswith("chart ") or not re.fullmatch(r"[a-z][a-z0-9]{0,15}", name):
        return text.startswith("chart ") and name == "" and not pieces
    if not pieces:
        return True
    ended = pieces[-1].endswith("\n")
    fractions = rising(pieces[:-1] + [pieces[-1][:-1]] if ended else pieces[:-1])
    if fractions is None or len(pieces) > 32:
        return False
    last = fractions[-1] if fractions else 0
    return ended or BEST.get(pieces[-1], 0) > last


def expected(text):
    """What is to be answered, as the document says it: so many bytes, as many as can be."""
    longest = max(n for n in range(len(text) + 1) if begins(text[:n]))
    if longest == len(text) and text.endswith("\n"):
        return [text.count("/")]
    return [-6, longest]


class Chart(unittest.TestCase):
    def ones(self, *texts):
        for text in texts:
            self.assertEqual(chart(signs(text)), [text.count("/")], text)
            self.assertEqual(expected(text), [text.count("/")], text)

    def faults(self, *marked):
        """Texts that are none, with a bar where the fault is."""
        for text in marked:
            whole, fault = text.replace("|", ""), text.index("|")
            self.assertEqual(chart(signs(whole)), [-6, fault], text)
            self.assertEqual(expected(whole), [-6, fault], text)

    def check(self, text):
        self.assertEqual(chart(signs(text)), expected(text), text)


class Ladders(Chart):
    def test_ordinary(self):
        self.ones("chart a 1/2\n", "chart walk 1/4 1/2 3/4\n", "chart b2 1/3 2/5 3/7 5/8\n", SAMPLE)

    def test_every_fraction_by_itself(self):
        self.assertEqual(len(ALL), 1259)
        for f in ALL:
            self.assertEqual(chart(signs(ladder([f]))), [1], f)

    def test_every_fraction_and_the_next_one(self):
        for one, other in zip(ALL, ALL[1:]):
            self.assertEqual(chart(signs(ladder([one, other]))), [2], (one, other))
            self.assertEqual(chart(signs(ladder([other, one])))[0], -6, (one, other))

    def test_how_many(self):
        for count in range(1, 33):
            self.assertEqual(chart(signs(ladder(ALL[:count]))), [count])
            self.assertEqual(chart(signs(ladder(ALL[-count:]))), [count])
            self.assertEqual(chart(signs(ladder(ALL[::39][:count]))), [count])

    def test_the_least_and_the_greatest(self):
        self.ones("chart a 1/64\n", "chart a 63/64\n", "chart a 1/64 63/64\n", "chart a 1/64 1/63\n", "chart a 62/63 63/64\n")

    def test_names(self):
        for name in RIGHT_NAMES:
            self.ones(f"chart {bytes(name).decode()} 1/2\n")


class Fractions(Chart):
    def test_none(self):
        self.faults("chart a|\n", "chart a |\n", "chart a|", "chart a |")

    def test_nought_above_and_below(self):
        self.faults("chart a |0/1\n", "chart a |0/2\n", "chart a |0/64\n", "chart a |0", "chart a 1/|0\n", "chart a 10/|0\n")

    def test_p_not_below_q(self):
        self.faults("chart a 1/1|\n", "chart a 2/2|\n", "chart a 2/1|\n", "chart a 3/2|\n", "chart a 7/|7\n", "chart a 9/|8\n",
                    "chart a 6/6|\n", "chart a 63/6|3\n", "chart a 63/6|2\n", "chart a 40/4|0\n", "chart a 40/|3\n",
                    "chart a 60/|5\n", "chart a 63/|1\n")

    def test_q_64_and_65(self):
        self.ones("chart a 1/64\n", "chart a 63/64\n", "chart a 1/63\n")
        self.faults("chart a 1/6|5\n", "chart a 1/6|6\n", "chart a 1/7|0\n", "chart a 1/9|9\n", "chart a 1/10|0\n",
                    "chart a 1/64|0\n", "chart a 6|4/65\n", "chart a 6|5\n", "chart a 7|0/71\n", "chart a 10|0/101\n",
                    "chart a 63/64|0\n")

    def test_not_in_least_terms(self):
        self.faults("chart a 2/4|\n", "chart a 2/4|4\n", "chart a 2/6|\n", "chart a 2/6|4\n", "chart a 3/6|\n", "chart a 32/6|4\n",
                    "chart a 9/1|2\n", "chart a 6/|9\n", "chart a 2/6| 1/2\n", "chart a 62/6|4\n")
        self.faults("chart a 4/6|\n", "chart a 4/|8\n", "chart a 30/6|0\n", "chart a 30/6|\n", "chart a 42/6|3\n")

    def test_not_greater_than_the_one_before(self):
        self.faults("chart a 1/2 1|/2\n", "chart a 1/2 1|/3\n", "chart a 3/4 1|/2\n", "chart a 3/4 2|/3\n", "chart a 1/3 1/|3\n")
        self.faults("chart a 1/3 2/5 3/|8\n", "chart a 1/3 2/5 2/|7\n", "chart a 2/5 2/|5\n", "chart a 1/64 1/6|4\n")
        self.faults("chart a 63/64| 63/64\n", "chart a 62/63 6|2/63\n", "chart a 61/63 61/6|3\n")
        self.faults("chart a 1/63 1/6|4\n", "chart a 1/5 1/|6\n", "chart a 1/4 1/|5\n")

    def test_a_numerator_that_none_can_have(self):
        self.faults("chart a 62/63 |1\n", "chart a 62/63 |5\n", "chart a 62/63 6|1/62\n", "chart a 62/63 |7\n")
        self.faults("chart a 9/10 |8/9\n", "chart a 9/10 |9/10\n", "chart a 9/10 |0\n", "chart a 29/30 |2\n", "chart a 29/30 3|\n")

    def test_a_numerator_that_can_still_grow(self):
        self.faults("chart a 1/2 1|", "chart a 1/2 1|/", "chart a 62/63 6|", "chart a 62/63 63|", "chart a 62/63 63/6|",
                    "chart a 62/63 63/|5")

    def test_the_32nd_and_the_33rd(self):
        for fractions in (ALL[:33], ALL[-33:], ALL[600:633], ALL[::38][:33]):
            whole = ladder(fractions[:32])
            self.ones(whole)
            self.faults(whole[:-1] + "|", ladder(fractions).replace(whole[:-1], whole[:-1] + "|"), whole[:-1] + "| \n")

    def test_behind_the_greatest(self):
        self.ones("chart a 63/64\n")
        self.faults("chart a 63/64| ", "chart a 63/64| 1/2\n", "chart a 1/2 63/64| \n", "chart a 63/64|/")

    def test_each_next_one_behind_some(self):
        digits = [str(n) for n in range(100)] + ["00", "01", "", "100", "a"]
        for f in ALL[::41] + ALL[-4:]:
            start = ladder([f])[:-1]
            for digit in digits:
                self.check(f"{start} {digit}")
                self.check(f"{start} {digit}/")

    def test_each_one_below_some(self):
        for start in ("chart a 1/", "chart a 2/", "chart a 30/", "chart a 62/", "chart a 63/", "chart a 1/3 2/", "chart a 4/7 30/",
                      "chart a 1/2 30/", "chart a 61/63 62/", "chart a 1/64 1/", "chart a 1/10 1/", "chart a 1/11 1/"):
            for q in list(range(100)) + ["00", "02", "064", "640", ""]:
                for end in ("", " ", "\n", "/", "0"):
                    self.check(f"{start}{q}{end}")


class Marks(Chart):
    def test_needless_noughts(self):
        self.faults("chart a |01/2\n", "chart a 1/|02\n", "chart a |00", "chart a 1/2 |02/3\n", "chart a 1/2 2/|03\n")

    def test_no_digit(self):
        self.faults("chart a |/2\n", "chart a 1/|\n", "chart a 1/| 2/3\n", "chart a |/\n", "chart a |-1/2\n", "chart a |+1/2\n",
                    "chart a 1/|-2\n", "chart a |x\n", "chart a 1/|x\n", "chart a 1/2|x\n")

    def test_slashes(self):
        self.faults("chart a 1| 2\n", "chart a 1|\n", "chart a 1/|/2\n", "chart a 1|:2\n", "chart a 1/2|/3\n", "chart a 1|\\2\n",
                    "chart a 1|,2\n", "chart a 1| /2\n", "chart a 1/| 2\n", "chart a 12|\n")

    def test_blanks(self):
        self.faults("chart|a 1/2\n", "chart | a 1/2\n", "chart a | 1/2\n", "chart a|/1/2\n", "chart a 1/2 | 2/3\n",
                    "chart a 1/2 |\n", "| chart a 1/2\n", "chart|\ta 1/2\n", "chart a|\t1/2\n",
                    "chart a 1/2|\t2/3\n", "chart a 1/2|,2/3\n", "chart a 1/2|\xa02/3\n", "chart|\na 1/2\n", "chart a|\n1/2\n")

    def test_a_missing_blank_makes_a_longer_name(self):
        self.faults("chart a1|/2\n", "chart a1234567890|/2\n")

    def test_rows_ends(self):
        self.faults("chart a 1/2|", "chart a 1/2|\r\n", "chart a 1/2|\r", "chart a 1/2|\0", "chart a 1/2\n|\n", "|\n",
                    "|\nchart a 1/2\n")

    def test_bytes_behind_its_end(self):
        for sign in range(256):
            text = signs(SAMPLE)
            self.assertEqual(chart(text + [sign]), [-6, len(text)])
            self.assertEqual(chart(text + [sign] * 3), [-6, len(text)])
        self.faults("chart a 1/2\n|chart a 1/2\n", "chart a 63/64\n| ")

    def test_the_word(self):
        self.faults("|Chart a 1/2\n", "c|Hart a 1/2\n", "|hart a 1/2\n", "char| a 1/2\n", "chart|s a 1/2\n", "|drawing a 1 1\n",
                    "c|", "chart|", "chart |", "|")

    def test_names_that_are_none(self):
        self.faults("chart |1 1/2\n", "chart |9a 1/2\n", "chart |A 1/2\n", "chart a|B 1/2\n", "chart a|-b 1/2\n", "chart |\n",
                    "chart | 1/2\n", "chart a|_ 1/2\n", "chart a|\x80 1/2\n", "chart |\xe1 1/2\n")
        self.faults("chart abcdefghijklmnop|q 1/2\n", "chart a123456789012345|6 1/2\n", "chart abcdefghijklmnop|",
                    "chart abcdefghijklmnop |", "chart abcdefghijklmno|", "chart " + "a" * 16 + "|" + "a" * 500)
        for name in WRONG_NAMES:
            text = "chart " + bytes(name).decode("latin-1") + " 1/2\n"
            self.assertEqual(chart(signs(text))[0], -6, text)
            self.check(text)


class AgainstTheWords(Chart):
    LONG = ladder(ALL[1::40])

    def test_cut_off_anywhere(self):
        for text in (SAMPLE, self.LONG, ladder(ALL[:32]), ladder(ALL[-32:])):
            for count in range(len(text)):
                self.assertEqual(chart(signs(text[:count])), [-6, count], text[:count])

    def test_each_byte_put_in_each_place(self):
        for i in range(len(SAMPLE)):
            for sign in range(256):
                self.check(SAMPLE[:i] + bytes([sign]).decode("latin-1") + SAMPLE[i + 1:])

    def test_each_byte_pushed_in_at_each_place(self):
        for i in range(len(SAMPLE) + 1):
            for sign in "\n /0123456789az-\x80\xff":
                self.check(SAMPLE[:i] + sign + SAMPLE[i:])

    def test_each_stretch_left_out(self):
        for i in range(len(SAMPLE)):
            for k in range(i + 1, len(SAMPLE) + 1):
                self.check(SAMPLE[:i] + SAMPLE[k:])

    def test_many_that_are_one_and_many_that_are_none(self):
        for fractions in some_ladders():
            self.ones(ladder(fractions))
        for text in no_ladders():
            self.assertEqual(chart(text), expected(bytes(text).decode("latin-1")), bytes(text))
            self.assertEqual(chart(text)[0], -6, bytes(text))

    def test_two_pieces_changed_for_one_another(self):
        pieces = self.LONG[:-1].split(" ")
        for i in range(2, len(pieces), 3):
            for k in range(i + 1, len(pieces), 3):
                changed = list(pieces)
                changed[i], changed[k] = pieces[k], pieces[i]
                self.check(" ".join(changed) + "\n")


class LongTexts(Chart):
    def test_65536_and_65537_bytes_and_100000(self):
        for start in ("", "chart ", "chart a", "chart a ", "chart a 1/2", "chart a 1/2 ", SAMPLE, ladder(ALL[:32])):
            for more in ("a", "1", "0", " ", "\n", "/", "1/2 ", " 1/2", "chart a 1/2\n", "\0", "\xff"):
                text = (start + more * 100000)[:100000]
                fault = expected(text[:300])
                self.assertEqual(chart(signs(text[:65536])), fault)
                self.assertEqual(chart(signs(text[:65537])), [-2])
                self.assertEqual(chart(signs(text)), [-2])

    def test_too_long_even_if_it_begins_with_a_ladder(self):
        text = signs(SAMPLE)
        self.assertEqual(chart(text + [10] * (65536 - len(text))), [-6, len(text)])
        self.assertEqual(chart(text + [10] * (65537 - len(text))), [-2])

    def test_each_byte_over_and_over(self):
        for sign in range(256):
            self.assertEqual(chart([sign] * 65536), [-6, 1 if sign == 99 else 0])
            self.assertEqual(chart([sign] * 100000), [-2])


if __name__ == "__main__":
    unittest.main()
