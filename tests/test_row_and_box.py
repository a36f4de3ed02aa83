"""Point 6, row, and point 7, box."""

import unittest

from asking import (HIGHEST, LOWEST, box, colour, colours, curve, curves_up_to, fill, line, move, opened, ring, row,
                    square, told, within)
from plain import rings_of

FAR = 1000000
FULL = 4294967295


class TestRow(unittest.TestCase):
    def test_range_of_y(self):
        for y in (0, 2):
            self.assertEqual(told(opened(4, 3), row(y))[1], [0, 0, 0, 0, 0])
        for y in (-1, 3, LOWEST, HIGHEST):
            self.assertEqual(told(opened(4, 3), row(y))[1], [-2])

    def test_a_picture_of_one_place(self):
        self.assertEqual(told(opened(1, 1), row(0), row(1), row(-1)), [[0], [0, 0], [-2], [-2]])

    def test_the_largest_picture(self):
        given = told(opened(512, 512), colour(511, 511, 1, 1, 7), row(0), row(511), row(512))
        self.assertEqual(given[2:], [[0] + [0] * 512, [0] + [0] * 511 + [7], [-2]])

    def test_colours_from_the_left(self):
        calls = [colour(0, 0, 1, 1, 11), colour(1, 0, 1, 1, 22), colour(2, 0, 1, 1, FULL), colour(0, 1, 3, 1, 44)]
        self.assertEqual(told(opened(3, 2), *calls, row(0), row(1))[-2:], [[0, 11, 22, FULL], [0, 44, 44, 44]])

    def test_after_fill(self):
        calls = [colour(0, 0, 3, 1, 5), *square(64, 0, 128, 64), fill(0, 6)]
        self.assertEqual(colours(3, 2, *calls), [[5, 6, 6], [0, 0, 0]])

    def test_after_an_open_that_came_again(self):
        first = [colour(0, 0, 3, 2, 5), *square(0, 0, 64, 64), fill(0, 6)]
        given = told(opened(3, 2), *first, opened(2, 3), row(0), row(2), row(3))
        self.assertEqual(given[-3:], [[0, 0, 0], [0, 0, 0], [-2]])
        given = told(opened(3, 2), *first, opened(3, 2), row(0), row(1))
        self.assertEqual(given[-2:], [[0, 0, 0, 0], [0, 0, 0, 0]])

    def test_after_refused_calls(self):
        drawn = [colour(0, 0, 1, 2, 5), *square(64, 0, 64, 64)]
        refused = [opened(0, 1), opened(513, 1), colour(0, 0, 3, 2, 9), colour(2, 2, 1, 0, 9), colour(0, 0, 2, 3, 9),
                   move(FAR + 1, 0), line(0, -FAR - 1), curve(0, 0, 0, FAR + 1), fill(2, 9), fill(-1, 9),
                   within(0, 2, 0), within(2, 0, 0), row(2), row(-1)]
        for call in refused:
            given = told(opened(2, 2), *drawn, call, row(0), row(1), fill(0, 7), row(0))
            self.assertEqual(given[-5:], [[-2], [0, 5, 0], [0, 5, 0], [1], [0, 5, 7]])

    def test_row_changes_nothing(self):
        calls = [opened(2, 1), *square(0, 0, 64, 64), row(0), row(0), row(1), fill(0, 3), row(0), row(0)]
        self.assertEqual(told(*calls)[-6:], [[0, 0, 0], [0, 0, 0], [-2], [1], [0, 3, 0], [0, 3, 0]])

    def test_what_was_answered_stays_as_it_was(self):
        calls = [opened(2, 1), row(0), colour(0, 0, 2, 1, 4), row(0), *square(0, 0, 64, 64), fill(0, 3), row(0)]
        given = told(*calls)
        self.assertEqual([given[1], given[3], given[-1]], [[0, 0, 0], [0, 4, 4], [0, 3, 4]])


class TestBox(unittest.TestCase):
    def answer(self, *calls):
        return told(opened(2, 2), *calls, box())[-1]

    def test_one_point(self):
        for point in ((0, 0), (5, -7), (FAR, -FAR), (-FAR, FAR)):
            self.assertEqual(self.answer(move(*point)), [0, *point, *point])

    def test_each_side_by_itself(self):
        self.assertEqual(self.answer(*ring((1, 2), (-3, 2))), [0, -3, 2, 1, 2])
        self.assertEqual(self.answer(*ring((1, 2), (1, -3))), [0, 1, -3, 1, 2])
        self.assertEqual(self.answer(*ring((1, 2), (9, 2))), [0, 1, 2, 9, 2])
        self.assertEqual(self.answer(*ring((1, 2), (1, 9))), [0, 1, 2, 1, 9])
        self.assertEqual(self.answer(*ring((4, 40), (-1, 50), (5, 30), (3, 45))), [0, -1, 30, 5, 50])

    def test_all_rings(self):
        rings = [ring((10, 10), (20, 20)), ring((-5, 15)), ring((15, 300), (16, 15)), ring((15, -8)), ring((99, 15))]
        for first in range(5):
            calls = [call for part in rings[first:] + rings[:first] for call in part]
            self.assertEqual(self.answer(*calls), [0, -5, -8, 99, 300])

    def test_the_farthest_points(self):
        self.assertEqual(self.answer(*ring((-FAR, 3), (4, FAR), (FAR, 5), (6, -FAR))), [0, -FAR, -FAR, FAR, FAR])

    def test_the_points_of_a_curve(self):
        # At k = 8 the curve reaches half of the way to (cx, cy), and no further.
        self.assertEqual(self.answer(move(0, 0), curve(0, 100, 0, 0)), [0, 0, 0, 0, 50])
        self.assertEqual(self.answer(move(0, 0), curve(100, 0, 0, 0)), [0, 0, 0, 50, 0])
        self.assertEqual(self.answer(move(0, 0), curve(-100, -200, 0, 0)), [0, -50, -100, 0, 0])
        self.assertEqual(self.answer(move(0, 0), curve(0, 0, -40, 60)), [0, -40, 0, 0, 60])

    def test_the_points_of_curves_as_reckoned_plainly(self):
        calls = [move(31, -7), curve(900, -400, 77, 3), curve(-600, 2, 5, 5), move(0, 0), curve(1, 999, 2, -1)]
        points = [point for drawn in rings_of(calls) for point in drawn]
        xs = [point[0] for point in points]
        ys = [point[1] for point in points]
        self.assertEqual(self.answer(*calls), [0, min(xs), min(ys), max(xs), max(ys)])

    def test_no_point(self):
        self.assertEqual(self.answer(), [-1])
        self.assertEqual(self.answer(*square(0, 0, 64, 64), opened(2, 2)), [-1])
        self.assertEqual(self.answer(*square(0, 0, 64, 64), fill(0, 1)), [-1])
        self.assertEqual(self.answer(line(1, 1), curve(1, 1, 2, 2), move(FAR + 1, 0)), [-1])

    def test_refused_calls_add_no_point(self):
        refused = [move(FAR + 1, 0), line(0, FAR + 1), curve(0, 0, -FAR - 1, 0), curve(HIGHEST, 0, 0, 0), fill(2, 0),
                   opened(0, 0), colour(3, 0, 0, 0, 0)]
        self.assertEqual(self.answer(*ring((1, 2), (3, 4)), *refused), [0, 1, 2, 3, 4])
        full = curves_up_to(4096)
        self.assertEqual(self.answer(*full, move(-FAR, 0), line(0, FAR), curve(0, 0, FAR, 0)), self.answer(*full))

    def test_the_outline_stays(self):
        calls = [*ring((0, 0), (64, 0)), box(), line(64, 64), box(), line(0, 64), box(), within(0, 0, 0), fill(0, 2)]
        given = told(opened(1, 1), *calls, row(0), box())
        self.assertEqual(given[3:], [[0, 0, 0, 64, 0], [3], [0, 0, 0, 64, 64], [4], [0, 0, 0, 64, 64], [256], [1],
                                     [0, 2], [-1]])

    def test_it_is_of_the_outline_not_of_the_picture(self):
        self.assertEqual(self.answer(colour(0, 0, 2, 2, 9)), [-1])
        self.assertEqual(self.answer(*square(-500, 900, 2, 3)), [0, -500, 900, -498, 903])


if __name__ == "__main__":
    unittest.main()
