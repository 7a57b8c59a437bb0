"""Texts for the tests, made and read apart from the program."""

import re
from fractions import Fraction

NUMBER = rb"(?:0|-?[1-9][0-9]*)"
NAME = rb"[a-z][a-z0-9]{0,15}"
POINT = NUMBER + rb"," + NUMBER
HEAD = rb"drawing " + NAME + rb" (" + NUMBER + rb") (" + NUMBER + rb")\n"
STROKE = rb"stroke (" + NAME + rb") (" + NUMBER + rb") (" + NUMBER + rb")((?: " + POINT + rb"){1,64})\n"
FILL = rb"fill (" + NUMBER + rb") (" + NUMBER + rb"),(" + NUMBER + rb")\n"
WHOLE = HEAD + rb"((?:" + STROKE.replace(b"(" + NAME, b"(?:" + NAME) + rb"){0,64})((?:" + FILL + rb"){0,64})"


def signs(text):
    return list(text.encode("latin-1"))


def stroke(name="s", paint=1, brush=0, places=((0, 0),)):
    return f"stroke {name} {paint} {brush}" + "".join(f" {x},{y}" for x, y in places) + "\n"


def fill(paint=1, x=0, y=0):
    return f"fill {paint} {x},{y}\n"


def head(name="a", width=10, height=10):
    return f"drawing {name} {width} {height}\n"


def drawing(*rows, name="a", width=10, height=10):
    return signs(head(name, width, height) + "".join(rows))


def greatest(name, place, point):
    """As much as a drawing can have: each count and each length at its most."""
    rows = [stroke(f"s{i:015d}", 255, 16, [place] * 64) for i in range(64)]
    rows += [fill(255, *point)] * 64
    return drawing(*rows, name=name, width=256, height=256)


def is_drawing(text):
    """The document's words as a pattern, to hold the program's reading against."""
    if not re.fullmatch(WHOLE, text):
        return False
    width, height = [int(n) for n in re.match(HEAD, text).groups()]
    if not (1 <= width <= 256 and 1 <= height <= 256):
        return False
    strokes = re.findall(STROKE, text)
    for name, paint, brush, places in strokes:
        numbers = [int(n) for n in re.findall(rb"-?[0-9]+", places)]
        if not (1 <= int(paint) <= 255 and 0 <= int(brush) <= 16 and -999 <= min(numbers) and max(numbers) <= 999):
            return False
    for paint, x, y in re.findall(FILL, text):
        if not (1 <= int(paint) <= 255 and 0 <= int(x) < width and 0 <= int(y) < height):
            return False
    return len({name for name, paint, brush, places in strokes}) == len(strokes)


def numbers(text):
    """Each x and y of a drawing's text, in its order."""
    points = re.findall(rb"(-?[0-9]+),(-?[0-9]+)", bytes(text))
    return [int(n) for point in points for n in point]


def named(text, name):
    """The drawing's text with another name."""
    return signs(re.sub(r"^drawing [a-z0-9]+ ", f"drawing {name} ", bytes(text).decode("latin-1")))


def told(text):
    return [len(text)] + text


def text_of(answer):
    """The text that is told, once its length is held against it."""
    if answer[:1] != [len(answer) - 1]:
        raise AssertionError(f"no text is told: {answer[:20]}")
    return answer[1:]


def is_nearest(number, a, n):
    """Whether it is the whole number nearest to a / n, the greater of two."""
    return -n < 2 * (number * n - a) <= n


def paired(values):
    """Each two of the values, in two lists."""
    return [x for x in values for u in values], [u for x in values for u in values]


def points(values):
    """The values as points, the last one put in again where they are odd."""
    values = values + values[-1:] * (len(values) % 2)
    return list(zip(values[::2], values[1::2]))


def shaped(name, values, spots):
    """A drawing with strokes through these values, x and y in turn, and fills at these spots."""
    places = points(values)
    rows = [stroke(f"s{i}", 1 + i % 255, i % 17, places[i:i + 64]) for i in range(0, len(places), 64)]
    rows += [fill(i + 1, *point) for i, point in enumerate(points(spots))]
    return drawing(*rows, name=name, width=256, height=256)


def ends():
    """Two that fit, each of these numbers on its way to each other one."""
    ones, others = paired((-999, -998, -64, -3, -2, -1, 0, 1, 2, 5, 63, 999))
    spots, others_spots = paired((0, 1, 2, 128, 255))
    return shaped("one", ones, spots), shaped("two", others, others_spots)


def unfit():
    """Two that don't fit, one for each cause, in both orders."""
    a = drawing(stroke("s"), fill(1))
    others = [
        drawing(stroke("s"), fill(1), width=11),
        drawing(stroke("s"), fill(1), height=11),
        drawing(stroke("s"), stroke("t"), fill(1)),
        drawing(stroke("t"), fill(1)),
        drawing(stroke("s", paint=2), fill(1)),
        drawing(stroke("s", brush=1), fill(1)),
        drawing(stroke("s", places=[(0, 0), (0, 0)]), fill(1)),
        drawing(stroke("s"), fill(1), fill(1)),
        drawing(stroke("s"), fill(2)),
    ]
    return [(a, b) for b in others] + [(b, a) for b in others]


# The greatest number that can be handed in.
MOST = 18446744073709551615

# Names that are none, and some that are.
WRONG_NAMES = [signs(name) for name in (
    "", "a" * 17, "a" * 100, "1", "9a", "0", "A", "aB", "Z9", "a b", " a", "a ", "a\n", "\n", "a-b", "-a", "a_b", "_", "a,",
    "a/b", "a:b", "`", "{", "a`", "a{", "a\0", "\0", "a\x80", "\xe1", "a\xff", "a" * 15 + "A", "a" * 16 + " ")]
RIGHT_NAMES = [signs(name) for name in (
    "a", "z", "a0", "z9", "mid", "a" * 16, "z" * 15 + "9", "a123456789012345", "drawing", "stroke", "fill", "chart")]

# Every fraction that a ladder may have, from the least on.
ALL = sorted({Fraction(p, q) for q in range(2, 65) for p in range(1, q)})


def ladder(fractions, name="a"):
    return f"chart {name}" + "".join(f" {f.numerator}/{f.denominator}" for f in fractions) + "\n"


def fractions_of(text):
    """The fractions that a ladder's text has, p and q as they stand there."""
    return [(int(p), int(q)) for p, q in re.findall(rb"([0-9]+)/([0-9]+)", bytes(text))]


def some_ladders():
    """Lists of fractions: 1 to 32 of them, the least, the greatest and those between, close together and far apart."""
    some = [ALL[:count] for count in range(1, 33)] + [ALL[-count:] for count in range(1, 33)]
    some += [ALL[start::step][:32] for start in (0, 1, 5, 629) for step in (2, 3, 17, 39)]
    some += [ALL[:1] + ALL[-1:], [Fraction(1, 2)], ALL[629 - 16:629 + 16], ALL[:16] + ALL[-16:]]
    return some


def no_ladders():
    """Texts that are none: names, fractions and marks that can't be, one cause by one."""
    texts = [b"chart " + bytes(name) + b" 1/2\n" for name in WRONG_NAMES]
    texts += [b"chart a " + piece + b"\n" for piece in (
        b"", b"0/1", b"0/2", b"1/1", b"2/2", b"3/2", b"1/0", b"0/0", b"1/65", b"64/65", b"63/65", b"1/640", b"1/100", b"64/64",
        b"2/4", b"3/6", b"2/64", b"32/64", b"62/64", b"6/9", b"63/63", b"01/2", b"1/02", b"-1/2", b"1/-2", b"+1/2", b"1", b"1/",
        b"/2", b"/", b"1//2", b"1/2/3", b"1:2", b"1 2", b"1/ 2", b"1 /2", b" 1/2", b"1/2 ", b"1/2  2/3", b"1/2,2/3", b"1/2\n2/3",
        b"1/2 1/2", b"1/2 1/3", b"1/2 2/4", b"2/3 1/2", b"3/4 2/3", b"1/3 2/3 1/2", b"1/64 1/64", b"63/64 63/64", b"62/63 61/62",
        b"1/2 x", b"x", b"1/2\r", b"1/2\0", b"\xb9/\xb2", b"1/2 3/4 ")]
    texts += [b"", b"\n", b" ", b"chart", b"chart a", b"chart\n", b"chart 1/2\n", b"Chart a 1/2\n", b"charts a 1/2\n", b"chart  a 1/2\n",
              b" chart a 1/2\n", b"chart a  1/2\n", b"charta 1/2\n", b"chart\ta 1/2\n", b"drawing a 1 1\n", b"\nchart a 1/2\n",
              b"chart a 1/2\nchart a 1/2\n", b"chart a 1/2\n\n", b"chart a 1/2", b"chart a 1/2\n ", b"chart a 1/2\n\0"]
    texts += [ladder(fractions).encode() for fractions in (ALL[:33], ALL[-33:], ALL[::37], ALL[::-1][:32], ALL)]
    return [list(text) for text in texts]


class Sequence:
    """Numbers that look thrown, but are the same at each run."""

    def __init__(self, start):
        self.state = start

    def below(self, most):
        self.state = (self.state * 6364136223846793005 + 1442695040888963407) % 2 ** 64
        return (self.state >> 33) % most

    def one_of(self, choices):
        return choices[self.below(len(choices))]

    def coordinate(self):
        """Often an edge, often close to 0, else anywhere."""
        return self.one_of((999, -999, self.below(7) - 3, self.below(1999) - 999, self.below(1999) - 999))

    def fitting(self, count, strokes, places, fills):
        """So many drawings that fit one another, with at most so many strokes, places of each and fills."""
        width, height = self.one_of((1, 2, 256, 1 + self.below(256))), self.one_of((1, 2, 256, 1 + self.below(256)))
        lengths = [1 + self.below(places) for _ in range(self.below(strokes + 1))]
        looks = [(1 + self.below(255), self.below(17)) for _ in lengths]
        paints = [1 + self.below(255) for _ in range(self.below(fills + 1))]
        some = []
        for name in ("one", "two", "three")[:count]:
            rows = [stroke(f"s{i}", *look, [(self.coordinate(), self.coordinate()) for _ in range(length)])
                    for i, (look, length) in enumerate(zip(looks, lengths))]
            rows += [fill(paint, self.below(width), self.below(height)) for paint in paints]
            some.append(drawing(*rows, name=name, width=width, height=height))
        return some

    def ladder(self):
        """A ladder's text with 1 to 32 of all fractions, in their order."""
        chosen = {self.below(len(ALL)) for _ in range(1 + self.below(32))}
        return signs(ladder([ALL[i] for i in sorted(chosen)], self.one_of(("a", "walk", "b2", "z" * 16))))
