"""The whole program at its bounds: 400 calls, a picture 512 wide and 512 high, an outline of 4096 points."""

import inspect
import random
import sys
import unittest

from asking import ask, box, colour, curve, curves_up_to, fill, line, move, opened, row, square, told, within
from outlinefill.picture import answers
from plain import how_many_within, place_rounds, rings_of

FULL = 4294967295


class TestFourHundredCalls(unittest.TestCase):
    def test_of_one_kind(self):
        self.assertEqual(ask(*[opened(512, 512)] * 400), [0] * 400)
        self.assertEqual(ask(opened(512, 512), *[colour(0, 0, 512, 512, 7)] * 399), [0] * 400)
        self.assertEqual(ask(opened(1, 1), *[move(0, 0)] * 399), list(range(400)))
        self.assertEqual(ask(opened(512, 512), *[fill(0, FULL)] * 399), [0] * 400)

    def test_of_all_kinds(self):
        # The same nine calls again and again, the first of them an open.
        calls = [opened(2, 1), colour(0, 0, 2, 1, 9), move(0, 0), line(64, 0), curve(64, 64, 64, 64), within(1, 0, 0),
                 box(), fill(0, 0), row(0)]
        due = [[0], [0], [1], [2], [18], [136], [0, 0, 0, 64, 64], [1], [0, 4, 9]]
        self.assertEqual(told(*calls * 44, *calls[:4]), due * 44 + due[:4])

    def test_rows_of_the_largest_picture(self):
        calls = [opened(512, 512), colour(0, 0, 512, 512, FULL)] + [row(511)] * 398
        self.assertEqual(told(*calls), [[0], [0]] + [[0] + [FULL] * 512] * 398)

    def test_calls_do_not_nest(self):
        calls = [opened(4, 4), *curves_up_to(4096), *[within(0, 0, 0), box(), row(0), fill(0, 9)] * 32]
        listed = [number for call in calls for number in call]
        allowed = sys.getrecursionlimit()
        sys.setrecursionlimit(len(inspect.stack()) + 40)
        try:
            given = answers(listed)
        finally:
            sys.setrecursionlimit(allowed)
        self.assertEqual(given[-4:], [0, 0, 1, 0])


class TestTheLargestPicture(unittest.TestCase):
    def test_filled_again_and_again(self):
        around = square(0, 0, 32768, 32768)
        given = told(opened(512, 512), *[*around, fill(0, 5), *around, fill(1, 6)] * 39, row(0), row(511))
        self.assertEqual(given[-2:], [[0] + [6] * 512] * 2)
        self.assertEqual(given[5:-2:5], [[262144]] * 78)

    def test_a_slanted_line_across(self):
        # The places on the line from corner to corner are cut as the place (0, 0) is.
        half = [move(0, 0), line(32768, 32768), line(0, 32768)]
        given = told(opened(512, 512), *half, fill(0, 256 * 256 - 1), row(0), row(200), row(511))
        cut = (255 * 120 + 128) // 256 * 257
        self.assertEqual(given[4], [512 * 513 // 2])
        self.assertEqual(given[5], [0, cut] + [0] * 511)
        self.assertEqual(given[6], [0] + [65535] * 200 + [cut] + [0] * 311)
        self.assertEqual(given[7], [0] + [65535] * 511 + [cut])


class TestManyPoints(unittest.TestCase):
    def setUp(self):
        maker = random.Random(31)
        self.outline = [move(100, 200)]
        self.outline += [curve(*[maker.randint(-2000, 34000) for k in range(4)]) for k in range(254)]
        # A second ring; the two have 4096 points.
        self.outline += [move(0, 0)]
        self.outline += [line(maker.randint(0, 32767), maker.randint(0, 32767)) for k in range(30)]
        self.rings = rings_of(self.outline)
        self.places = [(0, 0), (511, 511)] + [(maker.randint(0, 511), maker.randint(0, 511)) for k in range(6)]

    def test_some_places_as_reckoned_plainly(self):
        rounds = [place_rounds(self.rings, x, y) for x, y in self.places]
        for rule in (0, 1):
            shares = [how_many_within(numbers, rule) for numbers in rounds]
            asked = [within(rule, x, y) for x, y in self.places]
            rows = [row(y) for x, y in self.places]
            given = told(opened(512, 512), *self.outline, *asked, fill(rule, 255), *rows)
            self.assertEqual(given[len(self.outline)], [4096])
            self.assertEqual(given[-17:-9], [[n] for n in shares])
            colours = [answer[1 + x] for (x, y), answer in zip(self.places, given[-8:])]
            self.assertEqual(colours, [(255 * n + 128) // 256 for n in shares])

    def test_how_many_places(self):
        # A part of 255 shows each place that has a sample point within, be it a single one.
        for rule in (0, 1):
            given = told(opened(512, 100), *self.outline, fill(rule, 255), *[row(y) for y in range(100)])
            reached = sum(number > 0 for answer in given[-100:] for number in answer[1:])
            self.assertEqual(given[-101], [reached])


if __name__ == "__main__":
    unittest.main()
