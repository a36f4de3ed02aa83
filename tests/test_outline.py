"""Point 3: move, line, curve."""

import unittest
from fractions import Fraction

from asking import HIGHEST, LOWEST, ask, curve, curves_up_to, line, move, opened
from outlinefill.outline import curve_points
from outlinefill.picture import Picture

FAR = 1000000
WRONG = (FAR + 1, -FAR - 1, LOWEST, HIGHEST)


def drawn(*calls):
    """The rings that these calls, on a new picture, leave behind."""
    picture = Picture()
    picture.begin(4, 4)
    ways = {3: picture.move, 4: picture.line, 5: picture.curve}
    for call in calls:
        ways[call[0]](*call[1:])
    return picture.outline.rings


def rounded(fraction):
    """To the nearest whole number, halves upwards."""
    return (fraction + Fraction(1, 2)).__floor__()


def bent(a, c, b, k):
    """The coordinate at k sixteenths of the curve, by halving the way between lines."""
    t = Fraction(k, 16)
    first = a + (c - a) * t
    second = c + (b - c) * t
    return rounded(first + (second - first) * t)


class TestPointCounts(unittest.TestCase):
    def test_move_and_line_add_one_and_curve_sixteen(self):
        calls = [opened(4, 4), move(0, 0), line(1, 1), curve(1, 2, 3, 4), move(9, 9), curve(0, 0, 0, 0), line(0, 0)]
        self.assertEqual(ask(*calls), [0, 1, 2, 18, 19, 35, 36])

    def test_the_same_point_again_counts_again(self):
        calls = [opened(4, 4), move(3, 3), move(3, 3), line(3, 3), line(3, 3), curve(3, 3, 3, 3)]
        self.assertEqual(ask(*calls), [0, 1, 2, 3, 4, 20])

    def test_points_are_kept_ring_by_ring(self):
        rings = drawn(move(1, 2), line(3, 4), line(-5, 6), move(7, 8), move(9, 10), line(11, 12))
        self.assertEqual(rings, [[(1, 2), (3, 4), (-5, 6)], [(7, 8)], [(9, 10), (11, 12)]])

    def test_a_curve_goes_on_from_the_point_reached(self):
        rings = drawn(move(0, 0), line(100, -100), curve(0, 50, 7, 300), curve(900, 50, -8, 1))
        first = curve_points((100, -100), (0, 50), (7, 300))
        second = curve_points((7, 300), (900, 50), (-8, 1))
        self.assertEqual(rings, [[(0, 0), (100, -100)] + first + second])

    def test_a_curve_goes_on_from_a_move(self):
        rings = drawn(move(0, 0), line(5, 5), move(40, 40), curve(0, 50, 7, 300))
        self.assertEqual(rings[1], [(40, 40)] + curve_points((40, 40), (0, 50), (7, 300)))


class TestCoordinates(unittest.TestCase):
    def test_the_farthest_are_taken(self):
        for far in (FAR, -FAR):
            calls = [opened(4, 4), move(far, 0), move(0, far), line(far, 0), line(0, far)]
            self.assertEqual(ask(*calls), [0, 1, 2, 3, 4])
            calls = [curve(far, 0, 0, 0), curve(0, far, 0, 0), curve(0, 0, far, 0), curve(0, 0, 0, far)]
            self.assertEqual(ask(opened(4, 4), move(far, far), *calls), [0, 1, 17, 33, 49, 65])

    def test_one_beyond_is_refused_and_changes_nothing(self):
        for wrong in WRONG:
            refused = [move(wrong, 0), move(0, wrong), line(wrong, 0), line(0, wrong)]
            refused += [curve(wrong, 0, 0, 0), curve(0, wrong, 0, 0), curve(0, 0, wrong, 0), curve(0, 0, 0, wrong)]
            for call in refused:
                self.assertEqual(ask(opened(4, 4), move(1, 1), call, line(2, 2)), [0, 1, -2, 2])
                self.assertEqual(drawn(move(1, 1), line(2, 2), call), [[(1, 1), (2, 2)]])
                self.assertEqual(drawn(call), [])

    def test_the_picture_sets_no_bounds(self):
        self.assertEqual(ask(opened(1, 1), move(-500, 900), line(65, 65)), [0, 1, 2])


class TestNoRing(unittest.TestCase):
    def test_line_and_curve_need_a_ring(self):
        self.assertEqual(ask(opened(4, 4), line(1, 1)), [0, -1])
        self.assertEqual(ask(opened(4, 4), curve(1, 1, 2, 2)), [0, -1])
        calls = [opened(4, 4), line(1, 1), curve(1, 1, 2, 2), move(0, 0), line(1, 1), curve(1, 1, 2, 2)]
        self.assertEqual(ask(*calls), [0, -1, -1, 1, 2, 18])

    def test_a_refused_move_begins_no_ring(self):
        calls = [opened(4, 4), move(FAR + 1, 0), line(1, 1), curve(1, 1, 2, 2)]
        self.assertEqual(ask(*calls), [0, -2, -1, -1])

    def test_a_refused_call_leaves_no_point(self):
        self.assertEqual(drawn(line(1, 1), curve(1, 1, 2, 2)), [])

    def test_out_of_range_comes_first(self):
        for wrong in WRONG:
            refused = [line(wrong, 0), line(0, wrong)]
            refused += [curve(wrong, 0, 0, 0), curve(0, wrong, 0, 0), curve(0, 0, wrong, 0), curve(0, 0, 0, wrong)]
            self.assertEqual(ask(opened(4, 4), *refused), [0] + [-2] * 6)


class TestMostPoints(unittest.TestCase):
    def after(self, points, *calls):
        """What these calls answer where the outline has so many points."""
        before = [opened(4, 4)] + curves_up_to(points)
        given = ask(*before, *calls)
        self.assertEqual(given[len(before) - 1], points)
        return given[len(before):]

    def test_move_and_line(self):
        self.assertEqual(self.after(4095, move(1, 1), move(1, 1)), [4096, -1])
        self.assertEqual(self.after(4095, line(1, 1), line(1, 1)), [4096, -1])
        self.assertEqual(self.after(4096, move(1, 1), line(1, 1), curve(1, 1, 1, 1)), [-1, -1, -1])

    def test_curve(self):
        self.assertEqual(self.after(4080, curve(1, 1, 2, 2), curve(1, 1, 2, 2)), [4096, -1])
        for points in (4081, 4090, 4095):
            self.assertEqual(self.after(points, curve(1, 1, 2, 2), line(1, 1)), [-1, points + 1])

    def test_out_of_range_comes_first(self):
        for wrong in WRONG:
            refused = [move(wrong, 0), move(0, wrong), line(wrong, 0), line(0, wrong)]
            refused += [curve(wrong, 0, 0, 0), curve(0, wrong, 0, 0), curve(0, 0, wrong, 0), curve(0, 0, 0, wrong)]
            self.assertEqual(self.after(4096, *refused), [-2] * 8)

    def test_a_refused_call_changes_nothing(self):
        full = curves_up_to(4096)
        self.assertEqual(drawn(*full, move(1, 1), line(1, 1), curve(1, 1, 2, 2)), drawn(*full))
        nearly = curves_up_to(4085)
        self.assertEqual(drawn(*nearly, curve(1, 1, 2, 2)), drawn(*nearly))

    def test_a_new_picture_has_room_again(self):
        self.assertEqual(self.after(4096, opened(4, 4), move(1, 1), curve(1, 1, 2, 2)), [0, 1, 17])


class TestCurvePoints(unittest.TestCase):
    def test_all_sixteen(self):
        # (16 - k)^2 a + 2 k (16 - k) c + k^2 b with a = (0, 0), c = (16, 0), b = (0, 256)
        due = [(2, 1), (4, 4), (5, 9), (6, 16), (7, 25), (8, 36), (8, 49), (8, 64)]
        due += [(8, 81), (8, 100), (7, 121), (6, 144), (5, 169), (4, 196), (2, 225), (0, 256)]
        self.assertEqual(curve_points((0, 0), (16, 0), (0, 256)), due)

    def test_below_0_it_rounds_down(self):
        # 128 - k^2, divided by 256: 0 while k^2 is at most 128, then -1.
        due = [(0, 0)] * 11 + [(-1, 0)] * 5
        self.assertEqual(curve_points((0, 0), (0, 0), (-1, 0)), due)
        due = [(-2, 0), (-3, 0), (-5, 0), (-6, 0), (-7, 0), (-7, 0), (-8, 0), (-8, 0)]
        due += [(-8, 0), (-7, 0), (-7, 0), (-6, 0), (-5, 0), (-3, 0), (-2, 0), (0, 0)]
        self.assertEqual(curve_points((0, 0), (-16, 0), (0, 0)), due)

    def test_a_half_goes_up(self):
        # At k = 8 the weights are 64, 128 and 64: halves come out on both sides of 0.
        self.assertEqual(curve_points((1, -1), (0, 0), (1, -1))[7], (1, 0))
        self.assertEqual(curve_points((3, -3), (0, 0), (3, -3))[7], (2, -1))

    def test_the_last_is_the_end(self):
        ends = [(0, 0), (5, -7), (-1, 1), (FAR, -FAR), (-FAR, FAR), (FAR, FAR), (-FAR, -FAR)]
        for a in ends:
            for c in ends:
                for b in ends:
                    points = curve_points(a, c, b)
                    self.assertEqual(len(points), 16)
                    self.assertEqual(points[15], b)

    def test_as_reckoned_another_way(self):
        corners = [(0, 0), (1, -1), (-37, 1001), (64, 63), (FAR, -FAR), (-FAR, 999999), (-123457, -7)]
        for a in corners:
            for c in corners:
                for b in corners:
                    due = [(bent(a[0], c[0], b[0], k), bent(a[1], c[1], b[1], k)) for k in range(1, 17)]
                    self.assertEqual(curve_points(a, c, b), due)

    def test_drawn_by_the_call(self):
        rings = drawn(move(-37, 1001), curve(64, -63, -FAR, 5))
        due = [(bent(-37, 64, -FAR, k), bent(1001, -63, 5, k)) for k in range(1, 17)]
        self.assertEqual(rings, [[(-37, 1001)] + due])


if __name__ == "__main__":
    unittest.main()
