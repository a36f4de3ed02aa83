"""How often the outline goes round a sample point, and what lies within by either rule."""

import random
import unittest

from asking import ask, colours, counts, curve, fill, line, move, opened, ring, square, square_back
from plain import blend, place_counts

FAR = 1000000
FULL = [[256, 256], [256, 256]]
NONE = [[0, 0], [0, 0]]


class TestSamplePoints(unittest.TestCase):
    def test_a_step_through_sample_points(self):
        # The sample points on the line itself, i = j, belong to what lies right of it: "greater" decides.
        for down in (True, False):
            left = [(0, 0), (64, 64), (0, 64)]
            right = [(0, 0), (64, 64), (64, 0)]
            if not down:
                left.reverse()
                right.reverse()
            for rule in (0, 1):
                self.assertEqual(counts(1, 1, rule, *ring(*left)), [[120]])
                self.assertEqual(counts(1, 1, rule, *ring(*right)), [[136]])

    def test_a_step_through_sample_points_that_leans_the_other_way(self):
        # From (69, 0) to (5, 64): through the sample points with i + j = 16 and no other place's.
        for left in ([(69, 0), (5, 64), (0, 64), (0, 0)], [(0, 0), (0, 64), (5, 64), (69, 0)]):
            self.assertEqual(counts(1, 1, 0, *ring(*left)), [[136]])
        for right in ([(69, 0), (5, 64), (90, 64), (90, 0)], [(90, 0), (90, 64), (5, 64), (69, 0)]):
            self.assertEqual(counts(1, 1, 0, *ring(*right)), [[120]])

    def test_where_the_columns_lie(self):
        # A sample point at 4 i + 2 + 1/2 lies between 4 i + 2 and 4 i + 3.
        for x in range(65):
            due = len([i for i in range(16) if 8 * i + 5 < 2 * x])
            self.assertEqual(counts(1, 1, 0, *square(0, 0, x, 64)), [[16 * due]])
            self.assertEqual(counts(1, 1, 0, *square(x, 0, 64 - x, 64)), [[256 - 16 * due]])

    def test_where_the_rows_lie(self):
        for y in range(65):
            due = len([j for j in range(16) if 8 * j + 5 < 2 * y])
            self.assertEqual(counts(1, 1, 0, *square(0, 0, 64, y)), [[16 * due]])
            self.assertEqual(counts(1, 1, 0, *square(0, y, 64, 64 - y)), [[256 - 16 * due]])

    def test_each_sample_point_by_itself(self):
        for j in (0, 1, 7, 15, 16, 31):
            for i in (0, 1, 8, 15, 16, 31):
                due = [[0, 0], [0, 0]]
                due[j // 16][i // 16] = 1
                self.assertEqual(counts(2, 2, 0, *square(4 * i + 2, 4 * j + 2, 1, 1)), due)
                self.assertEqual(counts(2, 2, 0, *square(4 * i + 3, 4 * j + 3, 3, 3)), NONE)

    def test_places_are_64_wide_and_high(self):
        self.assertEqual(counts(3, 2, 0, *square(64, 64, 64, 64)), [[0, 0, 0], [0, 256, 0]])
        self.assertEqual(counts(3, 2, 0, *square(32, 32, 128, 64)), [[64, 128, 64], [64, 128, 64]])


class TestRings(unittest.TestCase):
    def test_steps_of_one_y_count_nothing(self):
        for rule in (0, 1):
            self.assertEqual(counts(2, 2, rule, *ring((0, 30), (128, 30))), NONE)
            self.assertEqual(counts(2, 2, rule, *ring((0, 30), (128, 30), (50, 30), (90, 30))), NONE)
            stepped = ring((0, 0), (64, 0), (128, 0), (128, 128), (64, 128), (0, 128))
            self.assertEqual(counts(2, 2, rule, *stepped), FULL)

    def test_one_point_and_two_points(self):
        for rule in (0, 1):
            for points in ([(64, 64)], [(64, 64), (64, 64)], [(0, 0), (128, 128)], [(5, 120), (7, -3)]):
                self.assertEqual(counts(2, 2, rule, *ring(*points)), NONE)
                # They don't disturb the rings before and behind them either.
                around = square(0, 0, 128, 128) + ring(*points) + square_back(0, 0, 64, 128)
                self.assertEqual(counts(2, 2, rule, *around), [[0, 256], [0, 256]])

    def test_a_point_that_comes_again(self):
        points = [(0, 0), (0, 0), (128, 0), (128, 128), (128, 128), (0, 128), (0, 128)]
        self.assertEqual(counts(2, 2, 1, *ring(*points)), FULL)

    def test_the_closing_line(self):
        corners = [(3, 5), (120, 40), (30, 125)]
        for rule in (0, 1):
            bare = counts(2, 2, rule, *ring(*corners))
            self.assertEqual(bare, place_counts(2, 2, rule, *ring(*corners)))
            self.assertEqual(counts(2, 2, rule, *ring(*corners, corners[0])), bare)
            self.assertGreater(bare[0][0], 0)

    def test_each_ring_is_closed_to_its_own_first_point(self):
        rings = ring((0, 0), (64, 0), (64, 64), (0, 64)) + ring((64, 64), (128, 64), (128, 128), (64, 128))
        for rule in (0, 1):
            self.assertEqual(counts(2, 2, rule, *rings), [[256, 0], [0, 256]])

    def test_a_curve_is_closed_too(self):
        bent = [move(0, 0), curve(128, 0, 128, 128)]
        for rule in (0, 1):
            due = place_counts(2, 2, rule, *bent)
            self.assertEqual(counts(2, 2, rule, *bent), due)
            self.assertEqual(counts(2, 2, rule, *bent, line(0, 0)), due)
            self.assertGreater(due[0][1], 0)

    def test_a_ring_in_a_ring(self):
        hole = [[0, 128, 256], [256, 256, 256]]
        outer = square(0, 0, 192, 128)
        inner = (0, 0, 64, 64), (64, 0, 64, 32)
        same_way = [call for part in inner for call in square(*part)]
        against = [call for part in inner for call in square_back(*part)]
        self.assertEqual(counts(3, 2, 0, *outer, *same_way), [[256] * 3] * 2)
        self.assertEqual(counts(3, 2, 1, *outer, *same_way), hole)
        self.assertEqual(counts(3, 2, 0, *outer, *against), hole)
        self.assertEqual(counts(3, 2, 1, *outer, *against), hole)
        self.assertEqual(counts(3, 2, 0, *same_way, *outer), [[256] * 3] * 2)
        self.assertEqual(counts(3, 2, 1, *against, *outer), hole)

    def test_how_often_it_goes_round(self):
        # By how often a square is led one way, and how often the other way.
        for there in range(4):
            for back in range(4):
                if there + back > 0:
                    calls = square(0, 0, 128, 128) * there + square_back(0, 0, 128, 128) * back
                    self.assertEqual(counts(2, 2, 0, *calls), NONE if there == back else FULL)
                    self.assertEqual(counts(2, 2, 1, *calls), FULL if (there - back) % 2 else NONE)

    def test_twice_round_in_one_ring(self):
        corners = [(0, 0), (128, 0), (128, 128), (0, 128)]
        for points in (corners, corners[::-1]):
            self.assertEqual(counts(2, 2, 0, *ring(*points, *points)), FULL)
            self.assertEqual(counts(2, 2, 1, *ring(*points, *points)), NONE)

    def test_a_ring_through_itself(self):
        # The two halves of the figure are gone round 1 and -1 times.
        eight = ring((0, 0), (128, 128), (128, 0), (0, 128))
        due = place_counts(2, 2, 0, *eight)
        self.assertEqual(counts(2, 2, 0, *eight), due)
        self.assertEqual(counts(2, 2, 1, *eight), due)
        self.assertEqual(sum(map(sum, due)), 512)
        star = ring((64, 0), (104, 128), (0, 48), (128, 48), (24, 128))
        for rule in (0, 1):
            self.assertEqual(counts(2, 2, rule, *star), place_counts(2, 2, rule, *star))
        self.assertNotEqual(counts(2, 2, 0, *star), counts(2, 2, 1, *star))


class TestBeyondThePicture(unittest.TestCase):
    def both_rules(self, due, *calls):
        for rule in (0, 1):
            self.assertEqual(counts(2, 2, rule, *calls), due)
            reached = sum(n > 0 for row in due for n in row)
            self.assertEqual(ask(opened(2, 2), *calls, fill(rule, 7))[-1], reached)

    def test_beyond_on_every_side(self):
        for far in (1, 64, 1000, 900000):
            side = 128 + 2 * far
            self.both_rules(FULL, *square(-far, -far, side, side))
            self.both_rules(FULL, *square_back(-far, -far, side, side))

    def test_beyond_on_one_side(self):
        self.both_rules([[256, 0], [256, 0]], *square(-500, 0, 564, 128))
        self.both_rules([[0, 256], [0, 256]], *square(64, 0, 564, 128))
        self.both_rules([[256, 256], [0, 0]], *square(0, -500, 128, 564))
        self.both_rules([[0, 0], [256, 256]], *square(0, 64, 128, 564))

    def test_wholly_beside_it(self):
        for x, y in ((-64, 0), (128, 0), (0, -64), (0, 128), (-64, -64), (128, 128), (-FAR, 0), (FAR - 64, 0)):
            self.both_rules(NONE, *square(x, y, 64, 64))
            self.both_rules(NONE, *square_back(x, y, 64, 64))
        self.both_rules(NONE, *square(-FAR, 128, 2 * FAR, 64))
        self.both_rules(NONE, *square(128, -FAR, 64, 2 * FAR))
        self.both_rules(NONE, *square(-64, -FAR, 64, 2 * FAR))

    def test_the_farthest_points(self):
        self.both_rules(FULL, *square(-FAR, -FAR, 2 * FAR, 2 * FAR))
        self.both_rules(FULL, *square_back(-FAR, -FAR, 2 * FAR, 2 * FAR))
        self.both_rules([[120, 0], [256, 120]], *ring((-FAR, -FAR), (FAR, FAR), (-FAR, FAR)))
        self.both_rules([[136, 256], [0, 136]], *ring((-FAR, -FAR), (FAR, FAR), (FAR, -FAR)))

    def test_the_farthest_points_as_reckoned_plainly(self):
        corners = [(-FAR, -FAR), (FAR, FAR), (FAR, -FAR), (-FAR, FAR), (FAR, 77), (31, -FAR), (-999999, 20)]
        maker = random.Random(3)
        for turn in range(30):
            calls = ring(*[maker.choice(corners + [(60, 70), (1, 1)]) for k in range(maker.randint(3, 6))])
            for rule in (0, 1):
                self.assertEqual(counts(2, 2, rule, *calls), place_counts(2, 2, rule, *calls))


class TestAsReckonedPlainly(unittest.TestCase):
    def some_outline(self, maker, width, height):
        """Calls for one to three rings of lines and curves, in the picture and around it."""
        margin = maker.choice((0, 0, 40, 3000))

        def coordinate(places):
            return maker.randint(-margin, 64 * places + margin)

        calls = []
        for k in range(maker.randint(1, 3)):
            calls.append(move(coordinate(width), coordinate(height)))
            for step in range(maker.randint(0, 5)):
                point = [coordinate(width), coordinate(height)]
                if maker.random() < 0.4:
                    calls.append(curve(coordinate(width), coordinate(height), *point))
                else:
                    calls.append(line(*point))
        return calls

    def test_within_and_fill(self):
        maker = random.Random(11)
        for turn in range(120):
            width = maker.randint(1, 4)
            height = maker.randint(1, 3)
            calls = self.some_outline(maker, width, height)
            rule = maker.randint(0, 1)
            new = maker.randint(0, 4294967295)
            with self.subTest(width=width, height=height, rule=rule, new=new, calls=calls):
                due = place_counts(width, height, rule, *calls)
                self.assertEqual(counts(width, height, rule, *calls), due)
                self.assertEqual(colours(width, height, *calls, fill(rule, new)),
                                 [[blend(0, new, n) for n in row] for row in due])
                reached = sum(n > 0 for row in due for n in row)
                self.assertEqual(ask(opened(width, height), *calls, fill(rule, new))[-1], reached)

    def test_points_of_a_coarse_grid(self):
        # Coordinates 4 i + 2 + 1 / 2 are never met, but lines between such points pass through many.
        maker = random.Random(12)
        grid = [4 * k + 1 for k in range(-3, 20)] + [4 * k for k in range(-3, 20)]
        for turn in range(120):
            points = [(maker.choice(grid), maker.choice(grid)) for k in range(maker.randint(3, 7))]
            for rule in (0, 1):
                with self.subTest(rule=rule, points=points):
                    self.assertEqual(counts(1, 1, rule, *ring(*points)), place_counts(1, 1, rule, *ring(*points)))


if __name__ == "__main__":
    unittest.main()
