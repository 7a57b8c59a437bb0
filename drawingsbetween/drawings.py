"""Drawings and their texts: whether two fit, and how far apart they are."""

LINE_END = 10
BLANK = 32
COMMA = 44
MINUS = 45
NOUGHT = 48
NINE = 57
LETTER_A = 97
LETTER_Z = 122

MOST_BYTES = 65536
MOST_SIGNS = 16
MOST_DIGITS = 3
MOST_SIZE = 256
MOST_PAINT = 255
MOST_BRUSH = 16
FARTHEST_PLACE = 999
MOST_PLACES = 64
MOST_STROKES = 64
MOST_FILLS = 64


# Raised within the reading of a text only: the calls answer with numbers.
class NoDrawing(ValueError):
    pass


class Stroke:
    def __init__(self, name, paint, brush, places):
        self.name = name
        self.paint = paint
        self.brush = brush
        self.places = places


class Fill:
    def __init__(self, paint, point):
        self.paint = paint
        self.point = point


# A drawing's own name is not kept: no answer depends on it.
class Drawing:
    def __init__(self, width, height, strokes, fills):
        self.width = width
        self.height = height
        self.strokes = strokes
        self.fills = fills


def must(holds):
    if not holds:
        raise NoDrawing("not the text of a drawing")


def signs_of(word):
    return [ord(sign) for sign in word]


# Empty pieces are kept, so that a doubled or a missing mark shows as a piece that reads as nothing.
def cut(signs, mark):
    pieces = []
    piece = []
    for sign in signs:
        if sign == mark:
            pieces.append(piece)
            piece = []
        else:
            piece.append(sign)
    pieces.append(piece)
    return pieces


def is_digit(sign):
    return NOUGHT <= sign <= NINE


def is_letter(sign):
    return LETTER_A <= sign <= LETTER_Z


def is_name(signs):
    if len(signs) < 1 or len(signs) > MOST_SIGNS:
        return False
    if not is_letter(signs[0]):
        return False
    return all([is_letter(sign) or is_digit(sign) for sign in signs])


def read_number(signs, least, most):
    below = signs[:1] == [MINUS]
    digits = signs[1:] if below else signs
    # No number of a drawing is longer; a row of digits may be as long as the whole text.
    must(1 <= len(digits) <= MOST_DIGITS)
    value = 0
    for digit in digits:
        must(is_digit(digit))
        value = value * 10 + digit - NOUGHT
    # The nought by itself is the one number that begins with one, and it is not below 0.
    must(digits[0] != NOUGHT or signs == [NOUGHT])
    if below:
        value = -value
    must(least <= value <= most)
    return value


def read_point(signs, least, most_x, most_y):
    pieces = cut(signs, COMMA)
    must(len(pieces) == 2)
    return (read_number(pieces[0], least, most_x), read_number(pieces[1], least, most_y))


def read_place(signs):
    return read_point(signs, -FARTHEST_PLACE, FARTHEST_PLACE, FARTHEST_PLACE)


def read_stroke(pieces):
    must(5 <= len(pieces) <= 4 + MOST_PLACES)
    must(is_name(pieces[1]))
    paint = read_number(pieces[2], 1, MOST_PAINT)
    brush = read_number(pieces[3], 0, MOST_BRUSH)
    places = [read_place(piece) for piece in pieces[4:]]
    return Stroke(pieces[1], paint, brush, places)


def read_fill(pieces, width, height):
    must(len(pieces) == 3)
    must(pieces[0] == signs_of("fill"))
    paint = read_number(pieces[1], 1, MOST_PAINT)
    return Fill(paint, read_point(pieces[2], 0, width - 1, height - 1))


def read_size(pieces):
    must(len(pieces) == 4)
    must(pieces[0] == signs_of("drawing"))
    must(is_name(pieces[1]))
    return (read_number(pieces[2], 1, MOST_SIZE), read_number(pieces[3], 1, MOST_SIZE))


def names_differ(strokes):
    names = [tuple(stroke.name) for stroke in strokes]
    return len(set(names)) == len(names)


def read_drawing(text):
    must(text[-1:] == [LINE_END])
    rows = [cut(row, BLANK) for row in cut(text[:-1], LINE_END)]
    size = read_size(rows[0])
    strokes = []
    fills = []
    for row in rows[1:]:
        if row[0] == signs_of("stroke"):
            must(len(fills) == 0)
            strokes.append(read_stroke(row))
        else:
            fills.append(read_fill(row, size[0], size[1]))
    must(len(strokes) <= MOST_STROKES)
    must(len(fills) <= MOST_FILLS)
    must(names_differ(strokes))
    return Drawing(size[0], size[1], strokes, fills)


def drawing_or_none(text):
    try:
        return read_drawing(text)
    except NoDrawing:
        return None


# 0 if the two strokes fit.
def stroke_kind(one, other):
    if one.name != other.name:
        return 3
    if one.paint != other.paint:
        return 4
    if one.brush != other.brush:
        return 5
    if len(one.places) != len(other.places):
        return 6
    return 0


# The kind and its number; nothing in the list if the two drawings fit.
def why_unfit(first, second):
    if first.width != second.width or first.height != second.height:
        return [1, 0]
    if len(first.strokes) != len(second.strokes):
        return [2, 0]
    for i in range(len(first.strokes)):
        kind = stroke_kind(first.strokes[i], second.strokes[i])
        if kind != 0:
            return [kind, i]
    if len(first.fills) != len(second.fills):
        return [7, 0]
    for i in range(len(first.fills)):
        if first.fills[i].paint != second.fills[i].paint:
            return [8, i]
    return []


# The number and what may be told with it; nothing in the list if there is nothing to refuse.
def refusal_of_two(a, b, first, second):
    if len(a) > MOST_BYTES or len(b) > MOST_BYTES:
        return [-2]
    if first is None:
        return [-6]
    if second is None:
        return [-5]
    why = why_unfit(first, second)
    if len(why) != 0:
        return [-8] + why
    return []


def points_of(drawing):
    points = []
    for stroke in drawing.strokes:
        points.extend(stroke.places)
    for fill in drawing.fills:
        points.append(fill.point)
    return points


def widest(ones, others, axis):
    most = 0
    for i in range(len(ones)):
        most = max(most, abs(ones[i][axis] - others[i][axis]))
    return most


def fit(a, b):
    refusal = refusal_of_two(a, b, drawing_or_none(a), drawing_or_none(b))
    if len(refusal) != 0:
        return refusal
    return [0]


def apart(a, b):
    first = drawing_or_none(a)
    second = drawing_or_none(b)
    refusal = refusal_of_two(a, b, first, second)
    if len(refusal) != 0:
        # Why they don't fit is fit's to tell.
        return refusal[:1]
    ones = points_of(first)
    others = points_of(second)
    return [widest(ones, others, 0), widest(ones, others, 1)]
