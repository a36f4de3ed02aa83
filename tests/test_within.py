"""Point 5: within."""

import unittest

from asking import (HIGHEST, LOWEST, ask, box, colour, colours, counts, curve, fill, line, move, opened, ring, row,
                    square, told, within)
from plain import place_counts

BENT = [move(10, 10), curve(500, 20, 300, 190), line(-40, 150), curve(0, 300, 100, -90)]


class TestAnswers(unittest.TestCase):
    def answer(self, rule, x, y, *calls):
        """What within answers in a picture 5 wide and 3 high."""
        return ask(opened(5, 3), *calls, within(rule, x, y))[-1]

    def test_range_of_x(self):
        around = square(-1, -1, 400, 400)
        for x, due in ((0, 256), (4, 256), (-1, -2), (5, -2), (LOWEST, -2), (HIGHEST, -2)):
            for y in (0, 2):
                self.assertEqual(self.answer(0, x, y, *around), due)

    def test_range_of_y(self):
        around = square(-1, -1, 400, 400)
        for y, due in ((0, 256), (2, 256), (-1, -2), (3, -2), (LOWEST, -2), (HIGHEST, -2)):
            for x in (0, 4):
                self.assertEqual(self.answer(0, x, y, *around), due)

    def test_range_of_rule(self):
        around = square(-1, -1, 400, 400)
        for rule, due in ((0, 256), (1, 256), (-1, -2), (2, -2), (LOWEST, -2), (HIGHEST, -2)):
            self.assertEqual(self.answer(rule, 0, 0, *around), due)
            self.assertEqual(self.answer(rule, 0, 0), min(due, 0))

    def test_ranges_are_those_of_the_last_picture(self):
        calls = [opened(5, 3), opened(3, 5), opened(6, 513)]
        asked = [within(0, 2, 4), within(0, 3, 0), within(0, 0, 5), within(0, 4, 2)]
        self.assertEqual(ask(*calls, *asked)[-4:], [0, -2, -2, -2])

    def test_an_outline_without_a_point(self):
        for rule in (0, 1):
            self.assertEqual(self.answer(rule, 0, 0), 0)
            self.assertEqual(self.answer(rule, 4, 2), 0)
            self.assertEqual(self.answer(rule, 0, 0, *square(0, 0, 64, 64), fill(0, 1)), 0)
            self.assertEqual(self.answer(rule, 0, 0, *square(0, 0, 64, 64), opened(5, 3)), 0)

    def test_x_goes_right_and_y_goes_down(self):
        spot = square(3 * 64, 1 * 64, 64, 32)
        self.assertEqual(self.answer(0, 3, 1, *spot), 128)
        for x, y in ((1, 1), (3, 0), (3, 2), (2, 1), (4, 1), (1, 2)):
            self.assertEqual(self.answer(0, x, y, *spot), 0)

    def test_every_place_as_reckoned_plainly(self):
        for rule in (0, 1):
            self.assertEqual(counts(5, 3, rule, *BENT), place_counts(5, 3, rule, *BENT))

    def test_the_rule_is_the_calls_own(self):
        twice = square(0, 0, 64, 64) + square(0, 0, 64, 48)
        asked = [within(0, 0, 0), within(1, 0, 0), within(0, 0, 0)]
        self.assertEqual(ask(opened(1, 1), *twice, *asked)[-3:], [256, 64, 256])


class TestNothingChanges(unittest.TestCase):
    def test_the_outline_stays(self):
        asked = [within(0, 0, 0), within(1, 4, 2), within(2, 0, 0), within(0, 5, 0)]
        plainly = told(opened(5, 3), *BENT, box(), line(7, 7), fill(1, 99), row(0), row(1), row(2))
        between = told(opened(5, 3), *BENT, *asked, box(), *asked, line(7, 7), *asked, fill(1, 99), row(0), row(1),
                       row(2))
        at_box = 1 + len(BENT)
        self.assertEqual(between[at_box + 4], plainly[at_box])
        self.assertEqual(between[at_box + 9], plainly[at_box + 1])
        self.assertEqual(between[-4:], plainly[-4:])

    def test_the_picture_stays(self):
        calls = [colour(0, 0, 2, 2, 5), *square(0, 0, 64, 128), within(0, 0, 0), within(1, 1, 1), within(0, 2, 0)]
        self.assertEqual(colours(2, 2, *calls), [[5, 5], [5, 5]])

    def test_a_ring_can_still_be_led_on(self):
        calls = [opened(1, 1), *ring((0, 0), (64, 0)), within(0, 0, 0), line(64, 64), within(0, 0, 0), line(0, 64)]
        self.assertEqual(ask(*calls, within(0, 0, 0)), [0, 1, 2, 0, 3, 136, 4, 256])


class TestFillGoesByTheSameNumber(unittest.TestCase):
    def test_every_place(self):
        for rule in (0, 1):
            found = counts(5, 3, rule, *BENT)
            filled = colours(5, 3, *BENT, fill(rule, 255))
            self.assertEqual(filled, [[(255 * n + 128) // 256 for n in line_of] for line_of in found])
            reached = len([n for line_of in found for n in line_of if n > 0])
            self.assertEqual(ask(opened(5, 3), *BENT, fill(rule, 255))[-1], reached)


if __name__ == "__main__":
    unittest.main()
