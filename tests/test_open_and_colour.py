"""Point 1, open, and point 2, colour."""

import unittest

from asking import HIGHEST, LOWEST, ask, colour, colours, line, move, opened
from outlinefill.picture import Picture


def picture_of(width, height):
    picture = Picture()
    picture.begin(width, height)
    return picture


class TestOpen(unittest.TestCase):
    def test_sizes_that_are_taken(self):
        for width in (1, 2, 300, 511, 512):
            for height in (1, 2, 300, 511, 512):
                self.assertEqual(ask(opened(width, height)), [0])

    def test_sizes_that_are_refused(self):
        for wrong in (0, -1, 513, LOWEST, HIGHEST):
            for size in ((wrong, 4), (4, wrong), (wrong, wrong)):
                self.assertEqual(ask(opened(4, 4), opened(*size)), [0, -2])

    def test_all_colours_are_0(self):
        self.assertEqual(picture_of(3, 2).rows, [[0, 0, 0], [0, 0, 0]])
        self.assertEqual(picture_of(512, 1).rows, [[0] * 512])

    def test_each_row_has_colours_of_its_own(self):
        picture = picture_of(2, 3)
        picture.paint(0, 1, 1, 1, 9)
        self.assertEqual(picture.rows, [[0, 0], [9, 0], [0, 0]])

    def test_a_second_open_begins_anew(self):
        picture = picture_of(2, 2)
        picture.paint(0, 0, 2, 2, 5)
        self.assertEqual(picture.begin(3, 1), 0)
        self.assertEqual(picture.rows, [[0, 0, 0]])

    def test_a_second_open_of_the_same_size_begins_anew(self):
        picture = picture_of(2, 2)
        picture.paint(0, 0, 2, 2, 5)
        self.assertEqual(picture.begin(2, 2), 0)
        self.assertEqual(picture.rows, [[0, 0], [0, 0]])

    def test_a_second_open_has_no_outline(self):
        calls = [opened(4, 4), move(1, 1), line(2, 2), opened(4, 4), line(3, 3), move(5, 5)]
        self.assertEqual(ask(*calls), [0, 1, 2, 0, -1, 1])

    def test_a_refused_open_leaves_the_outline(self):
        calls = [opened(4, 4), move(1, 1), opened(0, 4), line(2, 2), opened(4, 513), line(2, 2)]
        self.assertEqual(ask(*calls), [0, 1, -2, 2, -2, 3])

    def test_a_refused_open_leaves_the_picture(self):
        picture = picture_of(2, 2)
        picture.paint(1, 0, 1, 2, 5)
        for width, height in ((1, 0), (0, 1), (513, 1), (1, 513)):
            self.assertEqual(picture.begin(width, height), -2)
            self.assertEqual(picture.rows, [[0, 5], [0, 5]])
            self.assertEqual((picture.width, picture.height), (2, 2))


class TestColour(unittest.TestCase):
    def answer(self, *numbers):
        """What colour answers in a picture 7 wide and 5 high."""
        return ask(opened(7, 5), colour(*numbers))[1]

    def test_range_of_x(self):
        for x, due in ((0, 0), (7, 0), (-1, -2), (8, -2), (LOWEST, -2), (HIGHEST, -2)):
            self.assertEqual(self.answer(x, 0, 0, 0, 1), due)

    def test_range_of_y(self):
        for y, due in ((0, 0), (5, 0), (-1, -2), (6, -2), (LOWEST, -2), (HIGHEST, -2)):
            self.assertEqual(self.answer(0, y, 0, 0, 1), due)

    def test_range_of_w(self):
        for x in range(8):
            edges = ((0, 0), (7 - x, 0), (-1, -2), (8 - x, -2), (LOWEST, -2), (HIGHEST, -2))
            for w, due in edges:
                self.assertEqual(self.answer(x, 0, w, 1, 1), due)
                self.assertEqual(self.answer(x, 0, w, 0, 1), due)

    def test_range_of_h(self):
        for y in range(6):
            edges = ((0, 0), (5 - y, 0), (-1, -2), (6 - y, -2), (LOWEST, -2), (HIGHEST, -2))
            for h, due in edges:
                self.assertEqual(self.answer(0, y, 1, h, 1), due)
                self.assertEqual(self.answer(0, y, 0, h, 1), due)

    def test_a_wrong_start_is_not_made_good_by_the_size(self):
        self.assertEqual(self.answer(-1, 0, 2, 1, 1), -2)
        self.assertEqual(self.answer(0, -1, 1, 2, 1), -2)
        self.assertEqual(self.answer(8, 0, -1, 1, 1), -2)
        self.assertEqual(self.answer(0, 6, 1, -1, 1), -2)

    def test_colours(self):
        for value in (0, 1, 2147483648, 4294967295):
            self.assertEqual(self.answer(0, 0, 7, 5, value), 0)
        for value in (-1, 4294967296):
            self.assertEqual(self.answer(0, 0, 7, 5, value), -2)

    def test_ranges_are_those_of_the_last_picture(self):
        calls = [opened(7, 5), opened(5, 7), colour(0, 0, 5, 7, 1), colour(0, 0, 7, 5, 1), colour(6, 0, 0, 0, 1)]
        self.assertEqual(ask(*calls), [0, 0, 0, -2, -2])

    def test_ranges_stay_when_an_open_is_refused(self):
        calls = [opened(7, 5), opened(9, 513), colour(0, 0, 7, 5, 1), colour(0, 0, 8, 5, 1)]
        self.assertEqual(ask(*calls), [0, -2, 0, -2])

    def test_the_largest_picture(self):
        calls = [opened(512, 512), colour(0, 0, 512, 512, 1), colour(512, 512, 0, 0, 1), colour(511, 511, 1, 1, 1)]
        self.assertEqual(ask(*calls), [0, 0, 0, 0])
        self.assertEqual(ask(opened(512, 512), colour(511, 511, 2, 1, 1), colour(511, 511, 1, 2, 1)), [0, -2, -2])

    def test_the_places_that_take_the_colour(self):
        picture = picture_of(4, 3)
        self.assertEqual(picture.paint(1, 1, 2, 2, 4294967295), 0)
        full = 4294967295
        self.assertEqual(picture.rows, [[0, 0, 0, 0], [0, full, full, 0], [0, full, full, 0]])
        self.assertEqual(picture.paint(2, 0, 2, 2, 6), 0)
        self.assertEqual(picture.rows, [[0, 0, 6, 6], [0, full, 6, 6], [0, full, full, 0]])
        self.assertEqual(picture.paint(0, 0, 4, 3, 0), 0)
        self.assertEqual(picture.rows, [[0] * 4] * 3)

    def test_no_place_takes_the_colour(self):
        picture = picture_of(3, 2)
        for numbers in ((1, 1, 0, 1), (1, 1, 1, 0), (0, 0, 0, 0), (3, 0, 0, 2), (0, 2, 3, 0), (3, 2, 0, 0)):
            self.assertEqual(picture.paint(*numbers, 8), 0)
            self.assertEqual(picture.rows, [[0, 0, 0], [0, 0, 0]])

    def test_every_box_of_a_small_picture(self):
        boxes = [(x, y, w, h) for x in range(4) for y in range(3) for w in range(4 - x) for h in range(3 - y)]
        for x, y, w, h in boxes:
            due = [[8 if x <= i < x + w and y <= j < y + h else 0 for i in range(3)] for j in range(2)]
            self.assertEqual(colours(3, 2, colour(x, y, w, h, 8)), due)

    def test_a_refused_colour_changes_nothing(self):
        picture = picture_of(3, 2)
        picture.paint(0, 0, 2, 1, 8)
        for numbers in ((-1, 0, 1, 1), (0, -1, 1, 1), (1, 0, 3, 1), (0, 1, 1, 2), (0, 0, -1, 1), (0, 0, 1, -1)):
            self.assertEqual(picture.paint(*numbers, 9), -2)
            self.assertEqual(picture.rows, [[8, 8, 0], [0, 0, 0]])

    def test_colour_leaves_the_outline(self):
        calls = [opened(3, 3), move(1, 1), colour(0, 0, 3, 3, 1), line(2, 2), colour(0, 0, 4, 3, 1), line(3, 3)]
        self.assertEqual(ask(*calls), [0, 1, 0, 2, -2, 3])


if __name__ == "__main__":
    unittest.main()
