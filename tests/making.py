"""Texts for the tests, made apart from the program."""


def signs(text):
    return list(text.encode("latin-1"))


def stroke(name="s", paint=1, brush=0, places=((0, 0),)):
    return f"stroke {name} {paint} {brush}" + "".join(f" {x},{y}" for x, y in places) + "\n"


def fill(paint=1, x=0, y=0):
    return f"fill {paint} {x},{y}\n"


def head(name="a", width=10, height=10):
    return f"drawing {name} {width} {height}\n"


def drawing(*rows, name="a", width=10, height=10):
    return signs(head(name, width, height) + "".join(rows))


def greatest(name, place, point):
    """As much as a drawing can have: each count and each length at its most."""
    rows = [stroke(f"s{i:015d}", 255, 16, [place] * 64) for i in range(64)]
    rows += [fill(255, *point)] * 64
    return drawing(*rows, name=name, width=256, height=256)
