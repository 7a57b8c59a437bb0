"""The calls: whether two drawings fit, how far apart they are, what's between them; ladders told and made."""

from drawingsbetween.texts import Drawing, Fill, Stroke, drawing_or_none, drawing_text, is_name
from drawingsbetween.texts import FARTHEST_PLACE, MOST_FRACTIONS, MOST_PARTS, Ladder, NoLadder, Reader
from drawingsbetween.texts import common_divisor, ladder_or_none, ladder_text, read_ladder

MOST_BYTES = 65536
# By halves, m times: so many steps from the one end to the other.
STEPS = (1, 2, 4, 8, 16)
# What the fractions of slow ladders are parted by, one after another.
DOUBLINGS = (2, 4, 8, 16, 32, 64)
# What is refused where the first text is none, the second, the third.
NO_TEXT = (-6, -5, -4)


# 0 if the two strokes fit.
def stroke_kind(one, other):
    if one.name != other.name:
        return 3
    if one.paint != other.paint:
        return 4
    if one.brush != other.brush:
        return 5
    if len(one.places) != len(other.places):
        return 6
    return 0


# The kind and its number; nothing in the list if the two drawings fit.
def why_unfit(first, second):
    if first.width != second.width or first.height != second.height:
        return [1, 0]
    if len(first.strokes) != len(second.strokes):
        return [2, 0]
    for i in range(len(first.strokes)):
        kind = stroke_kind(first.strokes[i], second.strokes[i])
        if kind != 0:
            return [kind, i]
    if len(first.fills) != len(second.fills):
        return [7, 0]
    for i in range(len(first.fills)):
        if first.fills[i].paint != second.fills[i].paint:
            return [8, i]
    return []


# The number and what may be told with it; nothing in the list if there is nothing to refuse.
def refusal_of(texts, drawings):
    if any([len(text) > MOST_BYTES for text in texts]):
        return [-2]
    for i in range(len(drawings)):
        if drawings[i] is None:
            return [NO_TEXT[i]]
    for other in drawings[1:]:
        why = why_unfit(drawings[0], other)
        if len(why) != 0:
            return [-8] + why
    return []


def points_of(drawing):
    points = []
    for stroke in drawing.strokes:
        points.extend(stroke.places)
    for fill in drawing.fills:
        points.append(fill.point)
    return points


def widest(ones, others, axis):
    most = 0
    for i in range(len(ones)):
        most = max(most, abs(ones[i][axis] - others[i][axis]))
    return most


# Each x and y, in the order in which the text has them.
def numbers_of(drawing):
    numbers = []
    for point in points_of(drawing):
        numbers.extend(point)
    return numbers


# The drawing, but with these numbers, in the order of numbers_of.
def with_numbers(drawing, numbers):
    points = [(numbers[i], numbers[i + 1]) for i in range(0, len(numbers), 2)]
    strokes = []
    start = 0
    for stroke in drawing.strokes:
        end = start + len(stroke.places)
        strokes.append(Stroke(stroke.name, stroke.paint, stroke.brush, points[start:end]))
        start = end
    fills = [Fill(fill.paint, point) for fill, point in zip(drawing.fills, points[start:])]
    return Drawing(drawing.width, drawing.height, strokes, fills)


# The whole number nearest to a / n; rounding down what is half a step too great gives the greater of two.
def nearest(a, n):
    return (2 * a + n) // (2 * n)


def number_between(p, q, x, u):
    return x + nearest(p * (u - x), q)


# It calls itself at most as often as there are halvings, within one another.
def number_by_halves(k, m, x, u):
    if k == 0:
        return x
    if k == STEPS[m]:
        return u
    if k % 2 == 0:
        return number_by_halves(k // 2, m - 1, x, u)
    before = number_by_halves((k - 1) // 2, m - 1, x, u)
    behind = number_by_halves((k + 1) // 2, m - 1, x, u)
    return number_between(1, 2, before, behind)


def number_arced(p, q, x, m, u):
    return nearest((q - p) * (q - 2 * p) * x + 4 * p * (q - p) * m + p * (2 * p - q) * u, q * q)


def is_place(point):
    return abs(point[0]) <= FARTHEST_PLACE and abs(point[1]) <= FARTHEST_PLACE


# An arc may lead out of what a drawing can have, even if its ends and its middle don't.
def is_there(drawing):
    for stroke in drawing.strokes:
        if not all([is_place(place) for place in stroke.places]):
            return False
    for fill in drawing.fills:
        if not (0 <= fill.point[0] < drawing.width and 0 <= fill.point[1] < drawing.height):
            return False
    return True


def is_part(p, q):
    return 1 <= q <= MOST_PARTS and 0 <= p <= q


def is_step(k, m):
    return 0 <= m < len(STEPS) and 0 <= k <= STEPS[m]


# What is left of a fraction in least terms is in least terms too.
def turned_fractions(fractions):
    return [(q - p, q) for p, q in reversed(fractions)]


def in_least_terms(p, q):
    divisor = common_divisor(p, q)
    return (p // divisor, q // divisor)


def even_fractions(k):
    return [in_least_terms(p, k + 1) for p in range(1, k + 1)]


def slow_at_end(k):
    return [(q - 1, q) for q in DOUBLINGS[:k]]


def told(text):
    return [len(text)] + text


def fit(a, b):
    refusal = refusal_of([a, b], [drawing_or_none(a), drawing_or_none(b)])
    if len(refusal) != 0:
        return refusal
    return [0]


def apart(a, b):
    drawings = [drawing_or_none(a), drawing_or_none(b)]
    refusal = refusal_of([a, b], drawings)
    if len(refusal) != 0:
        # Why they don't fit is fit's to tell.
        return refusal[:1]
    ones = points_of(drawings[0])
    others = points_of(drawings[1])
    return [widest(ones, others, 0), widest(ones, others, 1)]


def between(p, q, a, b, s):
    if not is_part(p, q) or not is_name(s):
        return [-1]
    drawings = [drawing_or_none(a), drawing_or_none(b)]
    refusal = refusal_of([a, b], drawings)
    if len(refusal) != 0:
        return refusal[:1]
    xs = numbers_of(drawings[0])
    us = numbers_of(drawings[1])
    numbers = [number_between(p, q, xs[i], us[i]) for i in range(len(xs))]
    return told(drawing_text(with_numbers(drawings[0], numbers), s))


def halves(k, m, a, b, s):
    if not is_step(k, m) or not is_name(s):
        return [-1]
    drawings = [drawing_or_none(a), drawing_or_none(b)]
    refusal = refusal_of([a, b], drawings)
    if len(refusal) != 0:
        return refusal[:1]
    xs = numbers_of(drawings[0])
    us = numbers_of(drawings[1])
    numbers = [number_by_halves(k, m, xs[i], us[i]) for i in range(len(xs))]
    return told(drawing_text(with_numbers(drawings[0], numbers), s))


def arced(p, q, a, b, c, s):
    if not is_part(p, q) or not is_name(s):
        return [-1]
    drawings = [drawing_or_none(a), drawing_or_none(b), drawing_or_none(c)]
    refusal = refusal_of([a, b, c], drawings)
    if len(refusal) != 0:
        return refusal[:1]
    xs = numbers_of(drawings[0])
    ms = numbers_of(drawings[1])
    us = numbers_of(drawings[2])
    numbers = [number_arced(p, q, xs[i], ms[i], us[i]) for i in range(len(xs))]
    drawing = with_numbers(drawings[0], numbers)
    if not is_there(drawing):
        return [-3]
    return told(drawing_text(drawing, s))


def chart(t):
    if len(t) > MOST_BYTES:
        return [-2]
    reader = Reader(t)
    try:
        ladder = read_ladder(reader)
    except NoLadder:
        return [-6, reader.reach]
    return [len(ladder.fractions)]


def at(i, t):
    if len(t) > MOST_BYTES:
        return [-2]
    ladder = ladder_or_none(t)
    if ladder is None:
        # Where its fault is, is chart's to tell.
        return [-6]
    if i >= len(ladder.fractions):
        return [-3]
    return list(ladder.fractions[i])


def turned(t):
    if len(t) > MOST_BYTES:
        return [-2]
    ladder = ladder_or_none(t)
    if ladder is None:
        return [-6]
    return told(ladder_text(Ladder(ladder.name, turned_fractions(ladder.fractions))))


def even(k, s):
    if not 1 <= k <= MOST_FRACTIONS or not is_name(s):
        return [-1]
    return told(ladder_text(Ladder(s, even_fractions(k))))


def slow(k, e, s):
    if not 1 <= k <= len(DOUBLINGS) or not 0 <= e <= 1 or not is_name(s):
        return [-1]
    fractions = slow_at_end(k)
    if e == 0:
        # At its beginning it is as slow as the other one at its end.
        fractions = turned_fractions(fractions)
    return told(ladder_text(Ladder(s, fractions)))
