"""What the interface says of every call: kinds, nothing changed, nothing kept, long texts."""

import inspect
import unittest

from drawingsbetween.drawings import apart, arced, at, between, chart, even, fit, halves, slow, turned
from tests.making import ALL, MOST, drawing, fill, greatest, head, ladder, no_ladders, signs, stroke

LONGEST = 55000
LONGEST_OF_THREE = 36000
LONGEST_ALONE = 100000
MID = signs("mid")
PAIRS = (
    (drawing(stroke(places=[(1, 2)]), fill()), drawing(stroke(places=[(-3, 9)]), fill(1, 5, 5))),
    (drawing(stroke("s")), drawing(stroke("t"))),
    (drawing(), drawing(name="b")),
    (signs("drawing"), drawing()),
    (drawing(), signs("drawing a 1 1")),
    ([], []),
)
# The calls of two texts, with numbers and a name where they take such.
OF_TWO = (
    fit,
    apart,
    lambda a, b: between(1, 2, a, b, MID),
    lambda a, b: halves(3, 2, a, b, MID),
)
TRIOS = (
    (*PAIRS[0], PAIRS[0][0]),
    (PAIRS[0][0], *PAIRS[0]),
    (signs("drawing"), drawing(), drawing()),
    (drawing(), signs("drawing"), drawing()),
    (drawing(), drawing(), signs("drawing")),
    (drawing(stroke("s")), drawing(stroke("s")), drawing(stroke("t"))),
    ([], [], []),
    [drawing(stroke(places=[(n, 0)])) for n in (999, 999, -999)],
)
LADDERS = [[], signs("chart a 1/2\n"), signs("chart a 1/3 1/2 63/64\n"), signs("chart a 2/4\n"), signs("chart"), [10] * 65537]
LADDERS += [signs(ladder(ALL[:32], "a123456789012345")), signs(ladder(ALL[:33]))]
CASES = [(call, pair) for call in (fit, apart) for pair in PAIRS]
CASES += [(call, (1, 2, *pair, MID)) for call in (between, halves) for pair in PAIRS]
CASES += [(call, (*two, *PAIRS[0], MID)) for call in (between, halves) for two in ((0, 1), (MOST, MOST), (1, 0))]
CASES += [(call, (1, 2, *PAIRS[0], s)) for call in (between, halves) for s in ([], signs("9"), [97] * 100)]
CASES += [(arced, (1, 4, *trio, MID)) for trio in TRIOS]
CASES += [(arced, (p, q, *TRIOS[0], s)) for p, q, s in ((0, 1, MID), (MOST, MOST, MID), (1, 0, MID), (1, 4, [97] * 100))]
CASES += [(call, (t,)) for call in (chart, turned) for t in LADDERS]
CASES += [(even, (k, s)) for k in (0, 1, 5, 32, 33, MOST) for s in ([], MID, [97] * 16, [97] * 100)]
CASES += [(slow, (k, e, s)) for k in (0, 1, 6, 7, MOST) for e in (0, 1, 2, MOST) for s in ([], MID, [97] * 100)]
CASES += [(at, (i, t)) for i in (0, 1, 31, 32, MOST) for t in LADDERS]


def copied(given):
    return [list(thing) if isinstance(thing, list) else thing for thing in given]


def grown(text, more):
    """The text, and behind it more, over and over, to the greatest length."""
    start = signs(text)
    again = signs(more)
    return (start + again * LONGEST)[:LONGEST]


class Kinds(unittest.TestCase):
    def test_lists_of_whole_numbers(self):
        for call, given in CASES:
            answer = call(*given)
            self.assertIs(type(answer), list)
            self.assertEqual([type(n) for n in answer], [int] * len(answer))

    def test_names_of_the_arguments(self):
        names = {fit: "a b", apart: "a b", between: "p q a b s", halves: "k m a b s", arced: "p q a b c s", chart: "t",
                 at: "i t", turned: "t", even: "k s", slow: "k e s"}
        for call, expected in names.items():
            self.assertEqual(" ".join(inspect.signature(call).parameters), expected)

    def test_a_refusal_is_its_number_alone_or_a_text_has_its_length(self):
        for call, given in CASES:
            answer = call(*given)
            if call in (between, halves, arced):
                refused = len(answer) == 1 and answer[0] in (-1, -6, -5, -4, -8, -3)
                self.assertTrue(refused or answer[0] == len(answer) - 1, answer)
            if call == chart:
                self.assertEqual(len(answer), 2 if answer[0] == -6 else 1)
            if call == at:
                self.assertEqual(len(answer), 1 if answer[0] in (-2, -6, -3) else 2)
            if call == turned:
                self.assertTrue(answer in ([-2], [-6]) or answer[0] == len(answer) - 1, answer)
            if call in (even, slow):
                self.assertTrue(answer == [-1] or answer[0] == len(answer) - 1, answer)


class Watched(list):
    """A list that tells of any change, even one that is undone."""

    def refuse(self, *args, **kwargs):
        raise AssertionError("what is handed in was changed")

    append = extend = insert = pop = remove = clear = sort = reverse = refuse
    __setitem__ = __delitem__ = __iadd__ = __imul__ = refuse


class NothingChanged(unittest.TestCase):
    def test_the_same_after_as_before(self):
        for call, given in CASES:
            handed = copied(given)
            call(*handed)
            self.assertEqual(handed, list(given))

    def test_not_for_a_while_either(self):
        for call, given in CASES:
            watched = [Watched(thing) if isinstance(thing, list) else thing for thing in given]
            answer = call(*watched)
            self.assertEqual(answer, call(*given))
            self.assertIs(type(answer), list)

    def test_one_list_handed_in_twice(self):
        text = drawing(stroke(), fill())
        before = list(text)
        self.assertEqual((fit(text, text), apart(text, text)), ([0], [0, 0]))
        for call in OF_TWO:
            call(text, text)
            self.assertEqual(text, before)
        arced(1, 4, text, text, text, MID)
        self.assertEqual(text, before)


class NothingKept(unittest.TestCase):
    def test_a_second_call_answers_the_same(self):
        once = [call(*given) for call, given in CASES]
        again = [call(*given) for call, given in reversed(CASES)]
        self.assertEqual(once, again[::-1])

    def test_whatever_was_called_between(self):
        once = [call(*given) for call, given in CASES]
        for step in (7, 11, 13):
            self.assertNotEqual(len(CASES) % step, 0)
            for i in [n * step % len(CASES) for n in range(len(CASES))]:
                call, given = CASES[i]
                self.assertEqual(call(*given), once[i])
                self.assertEqual(call(*given), once[i])

    def test_an_answer_is_the_callers_own(self):
        for call, given in CASES:
            handed = copied(given)
            answer = call(*handed)
            before = list(answer)
            answer.append(99)
            answer[0] = 77
            self.assertEqual(handed, list(given))
            self.assertEqual(call(*handed), before)


class LongTexts(unittest.TestCase):
    def test_no_such_text_ends_in_an_error(self):
        good = drawing()
        texts = [[sign] * LONGEST for sign in (0, 10, 32, 44, 45, 48, 49, 97, 128, 255)]
        texts += [grown("", more) for more in ("drawing ", "drawing a 1 1\n", stroke(), fill(), " \n", "0,0 ")]
        texts += [grown("drawing ", more) for more in ("a", " ", "1")]
        texts += [grown("drawing a ", more) for more in ("1", "0", "-", "9")]
        texts += [grown(head(), more) for more in (stroke(), fill(), "\n", " ", "stroke ", "fill ", "stroke\n", "fill\n")]
        texts += [grown(head() + "stroke s 1 0", more) for more in (" 0,0", " ", ",", "1", "0,")]
        texts += [grown(head() + "stroke s 1 0 ", more) for more in ("1", "0", "-", "-1", "1,", ",")]
        texts += [grown(head() + "fill 1 ", more) for more in ("1", "0,0", ",")]
        texts += [grown(bytes(greatest("a", (-999, -999), (0, 0))).decode(), more) for more in ("\n", "1", fill())]
        texts.append((signs(head() + "".join(stroke(f"s{i}") for i in range(3000))) + [48] * LONGEST)[:LONGEST])
        for text in texts:
            self.assertEqual(len(text), LONGEST)
            for call in OF_TWO:
                self.assertEqual(call(text, good), [-6])
                self.assertEqual(call(good, text), [-5])
                self.assertEqual(call(text, text), [-6])
            shorter = text[:LONGEST_OF_THREE]
            self.assertEqual(arced(1, 4, shorter, good, good, MID), [-6])
            self.assertEqual(arced(1, 4, good, shorter, good, MID), [-5])
            self.assertEqual(arced(1, 4, good, good, shorter, MID), [-4])

    def test_nor_does_a_ladders(self):
        for text in LADDERS + no_ladders():
            for sign in (0, 10, 32, 47, 49, 97, 255):
                long = (text + [sign] * LONGEST_ALONE)[:LONGEST_ALONE]
                for count, answer in ((65536, [-6]), (65537, [-2]), (LONGEST_ALONE, [-2])):
                    self.assertEqual(chart(long[:count])[:1], answer)
                    self.assertEqual(turned(long[:count]), answer)
                    self.assertEqual(at(0, long[:count]), answer)
                    self.assertEqual(at(MOST, long[:count]), answer)


if __name__ == "__main__":
    unittest.main()
