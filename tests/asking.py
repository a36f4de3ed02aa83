"""Calls written by their names, for the tests."""

from outlinefill.picture import answers

LOWEST = -2147483648
HIGHEST = 2147483647


def opened(width, height):
    return [1, width, height]


def colour(x, y, w, h, value):
    return [2, x, y, w, h, value]


def move(x, y):
    return [3, x, y]


def line(x, y):
    return [4, x, y]


def curve(cx, cy, x, y):
    return [5, cx, cy, x, y]


def ask(*calls):
    """The answers to these calls, each of which answers one number."""
    given = answers([number for call in calls for number in call])
    if len(given) != 2 * len(calls) or given[::2] != [1] * len(calls):
        raise AssertionError(f"not one number for each call: {given}")
    return given[1::2]


def curves_up_to(points):
    """Calls that begin an outline and leave it with so many points."""
    calls = [move(0, 0)]
    calls += [curve(i, -i, 2 * i, 3 * i) for i in range((points - 1) // 16)]
    calls += [line(i, 7) for i in range((points - 1) % 16)]
    return calls
