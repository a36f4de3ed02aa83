"""Calls written by their names, for the tests."""

from outlinefill.picture import answers

LOWEST = -2147483648
HIGHEST = 2147483647


def opened(width, height):
    return [1, width, height]


def colour(x, y, w, h, value):
    return [2, x, y, w, h, value]


def move(x, y):
    return [3, x, y]


def line(x, y):
    return [4, x, y]


def curve(cx, cy, x, y):
    return [5, cx, cy, x, y]


def fill(rule, value):
    return [6, rule, value]


def within(rule, x, y):
    return [7, rule, x, y]


def row(y):
    return [8, y]


def box():
    return [9]


def told(*calls):
    """The answers to these calls, each a list of the numbers that the call answers."""
    given = answers([number for call in calls for number in call])
    parts = []
    at = 0
    while at < len(given):
        end = at + 1 + given[at]
        parts.append(given[at + 1:end])
        at = end
    if at != len(given) or len(parts) != len(calls) or [] in parts:
        raise AssertionError(f"not an answer for each call: {given}")
    return parts


def ask(*calls):
    """The answers to these calls, each of which answers one number."""
    parts = told(*calls)
    if max(len(part) for part in parts) > 1:
        raise AssertionError(f"not one number for each call: {parts}")
    return [part[0] for part in parts]


def ring(*points):
    """Calls that draw a ring of lines through these points."""
    return [move(*points[0])] + [line(*point) for point in points[1:]]


def square(x, y, width, height):
    """Calls that draw a ring along the sides of a rectangle: right, down, left, and closed by its left side."""
    return ring((x, y), (x + width, y), (x + width, y + height), (x, y + height))


def square_back(x, y, width, height):
    """The same rectangle, led the other way."""
    return ring((x, y), (x, y + height), (x + width, y + height), (x + width, y))


def colours(width, height, *calls):
    """The rows of colours that these calls leave in a new picture."""
    answered = told(opened(width, height), *calls, *[row(y) for y in range(height)])
    rows = answered[-height:]
    if [part[0] for part in rows] != [0] * height:
        raise AssertionError(f"a row is refused: {rows}")
    return [part[1:] for part in rows]


def counts(width, height, rule, *calls):
    """By within: how many sample points of each place lie within the outline of these calls."""
    asked = [within(rule, x, y) for y in range(height) for x in range(width)]
    answered = ask(opened(width, height), *calls, *asked)[-len(asked):]
    return [answered[y * width:(y + 1) * width] for y in range(height)]


def curves_up_to(points):
    """Calls that begin an outline and leave it with so many points."""
    calls = [move(0, 0)]
    calls += [curve(i, -i, 2 * i, 3 * i) for i in range((points - 1) // 16)]
    calls += [line(i, 7) for i in range((points - 1) % 16)]
    return calls
