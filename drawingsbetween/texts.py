"""Texts, byte by byte: how drawings' and ladders' are read and written."""

LINE_END = 10
BLANK = 32
COMMA = 44
MINUS = 45
SLASH = 47
NOUGHT = 48
NINE = 57
LETTER_A = 97
LETTER_Z = 122

MOST_SIGNS = 16
MOST_DIGITS = 3
MOST_SIZE = 256
MOST_PAINT = 255
MOST_BRUSH = 16
FARTHEST_PLACE = 999
MOST_PLACES = 64
MOST_STROKES = 64
MOST_FILLS = 64
MOST_PARTS = 64
MOST_FRACTIONS = 32
GREATEST_FRACTION = (63, 64)


# Raised within the reading of a text only: the calls answer with numbers.
class NoDrawing(ValueError):
    pass


class NoLadder(ValueError):
    pass


class Stroke:
    def __init__(self, name, paint, brush, places):
        self.name = name
        self.paint = paint
        self.brush = brush
        self.places = places


class Fill:
    def __init__(self, paint, point):
        self.paint = paint
        self.point = point


# A drawing's own name is not kept: no answer depends on it.
class Drawing:
    def __init__(self, width, height, strokes, fills):
        self.width = width
        self.height = height
        self.strokes = strokes
        self.fills = fills


class Ladder:
    def __init__(self, name, fractions):
        self.name = name
        self.fractions = fractions


def must(holds):
    if not holds:
        raise NoDrawing("not the text of a drawing")


def signs_of(word):
    return [ord(sign) for sign in word]


# Empty pieces are kept, so that a doubled or a missing mark shows as a piece that reads as nothing.
def cut(signs, mark):
    pieces = []
    piece = []
    for sign in signs:
        if sign == mark:
            pieces.append(piece)
            piece = []
        else:
            piece.append(sign)
    pieces.append(piece)
    return pieces


def is_digit(sign):
    return NOUGHT <= sign <= NINE


def is_letter(sign):
    return LETTER_A <= sign <= LETTER_Z


def is_name(signs):
    if len(signs) < 1 or len(signs) > MOST_SIGNS:
        return False
    if not is_letter(signs[0]):
        return False
    return all([is_letter(sign) or is_digit(sign) for sign in signs])


def read_number(signs, least, most):
    below = signs[:1] == [MINUS]
    digits = signs[1:] if below else signs
    # No number of a drawing is longer; a row of digits may be as long as the whole text.
    must(1 <= len(digits) <= MOST_DIGITS)
    value = 0
    for digit in digits:
        must(is_digit(digit))
        value = value * 10 + digit - NOUGHT
    # The nought by itself is the one number that begins with one, and it is not below 0.
    must(digits[0] != NOUGHT or signs == [NOUGHT])
    if below:
        value = -value
    must(least <= value <= most)
    return value


def read_point(signs, least, most_x, most_y):
    pieces = cut(signs, COMMA)
    must(len(pieces) == 2)
    return (read_number(pieces[0], least, most_x), read_number(pieces[1], least, most_y))


def read_place(signs):
    return read_point(signs, -FARTHEST_PLACE, FARTHEST_PLACE, FARTHEST_PLACE)


def read_stroke(pieces):
    must(5 <= len(pieces) <= 4 + MOST_PLACES)
    must(is_name(pieces[1]))
    paint = read_number(pieces[2], 1, MOST_PAINT)
    brush = read_number(pieces[3], 0, MOST_BRUSH)
    places = [read_place(piece) for piece in pieces[4:]]
    return Stroke(pieces[1], paint, brush, places)


def read_fill(pieces, width, height):
    must(len(pieces) == 3)
    must(pieces[0] == signs_of("fill"))
    paint = read_number(pieces[1], 1, MOST_PAINT)
    return Fill(paint, read_point(pieces[2], 0, width - 1, height - 1))


def read_size(pieces):
    must(len(pieces) == 4)
    must(pieces[0] == signs_of("drawing"))
    must(is_name(pieces[1]))
    return (read_number(pieces[2], 1, MOST_SIZE), read_number(pieces[3], 1, MOST_SIZE))


def names_differ(strokes):
    names = [tuple(stroke.name) for stroke in strokes]
    return len(set(names)) == len(names)


def read_drawing(text):
    must(text[-1:] == [LINE_END])
    rows = [cut(row, BLANK) for row in cut(text[:-1], LINE_END)]
    size = read_size(rows[0])
    strokes = []
    fills = []
    for row in rows[1:]:
        if row[0] == signs_of("stroke"):
            must(len(fills) == 0)
            strokes.append(read_stroke(row))
        else:
            fills.append(read_fill(row, size[0], size[1]))
    must(len(strokes) <= MOST_STROKES)
    must(len(fills) <= MOST_FILLS)
    must(names_differ(strokes))
    return Drawing(size[0], size[1], strokes, fills)


def drawing_or_none(text):
    try:
        return read_drawing(text)
    except NoDrawing:
        return None


def joined(pieces, mark):
    signs = []
    for i in range(len(pieces)):
        if i > 0:
            signs.append(mark)
        signs.extend(pieces[i])
    return signs


def number_signs(number):
    return signs_of(str(number))


def point_signs(point):
    return joined([number_signs(point[0]), number_signs(point[1])], COMMA)


def row_signs(pieces):
    return joined(pieces, BLANK) + [LINE_END]


def stroke_row(stroke):
    pieces = [signs_of("stroke"), stroke.name, number_signs(stroke.paint), number_signs(stroke.brush)]
    return row_signs(pieces + [point_signs(place) for place in stroke.places])


def fill_row(fill):
    return row_signs([signs_of("fill"), number_signs(fill.paint), point_signs(fill.point)])


def drawing_text(drawing, name):
    text = row_signs([signs_of("drawing"), name, number_signs(drawing.width), number_signs(drawing.height)])
    for stroke in drawing.strokes:
        text.extend(stroke_row(stroke))
    for fill in drawing.fills:
        text.extend(fill_row(fill))
    return text


def in_common(text, start, word):
    count = 0
    while count < len(word) and text[start + count:start + count + 1] == word[count:count + 1]:
        count += 1
    return count


# Goes along a text as far as some ladder's text begins with it; reach is how many bytes that is.
class Reader:
    def __init__(self, text):
        self.text = text
        self.reach = 0

    # The number of the word that stands next. The words are all that may stand there, so that each leads on
    # to a ladder's text, and none of them begins another one: the one that is met whole is the only one.
    def take(self, words):
        longest = 0
        for i in range(len(words)):
            count = in_common(self.text, self.reach, words[i])
            longest = max(longest, count)
            if count == len(words[i]):
                self.reach += count
                return i
        self.reach += longest
        raise NoLadder("not the text of a ladder")

    def take_name(self):
        start = self.reach
        while self.reach < len(self.text) and is_name(self.text[start:self.reach + 1]):
            self.reach += 1
        if self.reach == start:
            raise NoLadder("not the text of a ladder")
        return self.text[start:self.reach]

    def has_ended_a_row(self):
        return self.text[self.reach - 1] == LINE_END


def common_divisor(one, other):
    while other != 0:
        rest = one % other
        one = other
        other = rest
    return one


def is_greater(p, q, before):
    return p * before[1] > before[0] * q


# With p above, p / (p + 1) is the greatest, and always in least terms: if it's too little, all are.
def numerators(before):
    return [p for p in range(1, MOST_PARTS) if is_greater(p, p + 1, before)]


def denominators(p, before):
    return [q for q in range(p + 1, MOST_PARTS + 1) if common_divisor(p, q) == 1 and is_greater(p, q, before)]


# Another one may stand behind this one, which is the count-th.
def may_go_on(fraction, count):
    return count < MOST_FRACTIONS and fraction != GREATEST_FRACTION


def read_fraction(reader, before, count):
    above = numerators(before)
    p = above[reader.take([number_signs(number) + [SLASH] for number in above])]
    fractions = []
    words = []
    for q in denominators(p, before):
        fractions.append((p, q))
        words.append(number_signs(q) + [LINE_END])
        if may_go_on((p, q), count):
            fractions.append((p, q))
            words.append(number_signs(q) + [BLANK])
    return fractions[reader.take(words)]


def read_ladder(reader):
    reader.take([signs_of("chart ")])
    name = reader.take_name()
    reader.take([[BLANK]])
    fractions = [read_fraction(reader, (0, 1), 1)]
    while not reader.has_ended_a_row():
        fractions.append(read_fraction(reader, fractions[-1], len(fractions) + 1))
    if reader.reach != len(reader.text):
        raise NoLadder("bytes behind the end of a ladder's text")
    return Ladder(name, fractions)


def ladder_or_none(text):
    try:
        return read_ladder(Reader(text))
    except NoLadder:
        return None


def fraction_signs(fraction):
    return joined([number_signs(fraction[0]), number_signs(fraction[1])], SLASH)


def ladder_text(ladder):
    pieces = [signs_of("chart"), ladder.name]
    return row_signs(pieces + [fraction_signs(fraction) for fraction in ladder.fractions])
