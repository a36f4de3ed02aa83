"""Point 4: fill."""

import random
import unittest

from asking import (HIGHEST, LOWEST, ask, box, colour, colours, counts, curve, curves_up_to, fill, line, move, opened,
                    ring, row, square, square_back, told, within)
from plain import blend

FULL = 4294967295
# Calls that draw an outline with so many sample points of the place (0, 0) within.
SHARES = {
    0: square(3, 3, 3, 3),
    1: square(60, 60, 4, 4),
    128: square(0, 0, 64, 32),
    255: square(0, 0, 64, 64) + square_back(60, 60, 4, 4),
    256: square(0, 0, 64, 64),
}


def strip(rows):
    """Calls that draw an outline with 16 times so many sample points of the place (0, 0) within."""
    return square(0, 0, 64, 4 * rows)


def mixed(old, new, n):
    """The colour of one place, of the colour old, that is filled with n sample points within."""
    calls = SHARES[n] if n in SHARES else strip(n // 16)
    return colours(1, 1, colour(0, 0, 1, 1, old), *calls, fill(0, new))[0][0]


class TestColours(unittest.TestCase):
    def test_the_shares_are_as_told(self):
        for n, calls in SHARES.items():
            for rule in (0, 1):
                self.assertEqual(counts(1, 1, rule, *calls), [[n]])

    def test_no_sample_point_within(self):
        for old, new in ((0, FULL), (FULL, 0), (0x12345678, 0x9ABCDEF0)):
            self.assertEqual(mixed(old, new, 0), old)

    def test_all_sample_points_within(self):
        for old, new in ((0, FULL), (FULL, 0), (0x12345678, 0x9ABCDEF0), (7, 7)):
            self.assertEqual(mixed(old, new, 256), new)

    def test_one_sample_point_within(self):
        # 255 + 128 is 383, divided by 256: 1; below 128 nothing is left of one share.
        self.assertEqual(mixed(0, 0xFF807F00, 1), 0x01010000)
        # 255 * 255 + 128, divided by 256: 254; 128 * 255 + 128: 128; 129 * 255 + 128: 128.
        self.assertEqual(mixed(0xFF808101, 0, 1), 0xFE808001)

    def test_half_of_the_sample_points_within(self):
        # (old + new) / 2 with halves upwards.
        self.assertEqual(mixed(0, 0xFF010203, 128), 0x80010102)
        self.assertEqual(mixed(0xFF010203, 0, 128), 0x80010102)
        self.assertEqual(mixed(0x10FF00FE, 0x2000FFFF, 128), 0x188080FF)

    def test_all_but_one_sample_point_within(self):
        self.assertEqual(mixed(0, 0xFF808101, 255), 0xFE808001)
        self.assertEqual(mixed(0xFF807F00, 0, 255), 0x01010000)

    def test_each_part_by_itself(self):
        for shift in (0, 8, 16, 24):
            for low, high in ((0, 255), (10, 13), (100, 200), (254, 255)):
                for n in (1, 16, 48, 128, 240, 255, 256):
                    up = (low * (256 - n) + high * n + 128) // 256
                    down = (high * (256 - n) + low * n + 128) // 256
                    self.assertEqual(mixed(low << shift, high << shift, n), up << shift)
                    self.assertEqual(mixed(high << shift, low << shift, n), down << shift)
                    # The other parts are full, and stay as they are.
                    rest = FULL ^ (255 << shift)
                    self.assertEqual(mixed(rest + (low << shift), rest + (high << shift), n), rest + (up << shift))
                    self.assertEqual(mixed(rest + (high << shift), rest + (low << shift), n), rest + (down << shift))

    def test_the_rounding(self):
        # With 16 of 256 within, a part of 8 is half a unit, which goes up; 7 is less.
        self.assertEqual(mixed(0, 0x08070918, 16), 0x01000102)
        # 256 less 16 of a part are 240 shares of it: 8 leaves 7 and a half.
        self.assertEqual(mixed(0x08070918, 0, 16), 0x08070817)

    def test_many_colours(self):
        maker = random.Random(5)
        for turn in range(200):
            old = maker.randint(0, FULL)
            new = maker.randint(0, FULL)
            n = maker.choice((1, 16, 32, 80, 112, 128, 144, 208, 240, 255))
            self.assertEqual(mixed(old, new, n), blend(old, new, n))

    def test_each_place_goes_by_its_own_colour(self):
        calls = [colour(0, 0, 2, 1, 0xFF), colour(1, 1, 1, 1, 0xFF00), *square(32, 32, 64, 96), fill(0, 0x80000000)]
        due = [[blend(0xFF, 0x80000000, 64), blend(0xFF, 0x80000000, 64), 0],
               [blend(0, 0x80000000, 128), blend(0xFF00, 0x80000000, 128), 0]]
        self.assertEqual(colours(3, 2, *calls), due)

    def test_a_run_of_places_that_are_partly_within(self):
        calls = [colour(0, 0, 2, 1, 0xFF), *square(0, 0, 256, 20), fill(0, 0xFF00FF00)]
        self.assertEqual(colours(4, 1, *calls), [[blend(old, 0xFF00FF00, 80) for old in (0xFF, 0xFF, 0, 0)]])

    def test_a_fill_over_a_fill(self):
        calls = square(0, 0, 64, 32) + [fill(0, 0xFF)] + square(0, 0, 96, 64) + [fill(1, 0xFF00)]
        self.assertEqual(colours(2, 1, *calls), [[0xFF00, 0x8000]])
        calls = square(0, 0, 128, 64) + [fill(0, 0xFF)] + square(0, 0, 64, 32) + [fill(0, 0)]
        self.assertEqual(colours(2, 1, *calls), [[0x80, 0xFF]])
        twice = (square(0, 0, 64, 32) + [fill(0, FULL)]) * 2
        self.assertEqual(colours(1, 1, *twice), [[0xC0C0C0C0]])

    def test_rule_0_and_rule_1(self):
        twice = square(0, 0, 128, 64) + square(0, 0, 64, 64)
        self.assertEqual(colours(2, 1, *twice, fill(0, 9)), [[9, 9]])
        self.assertEqual(colours(2, 1, *twice, fill(1, 9)), [[0, 9]])
        self.assertEqual(colours(2, 1, *square_back(0, 0, 64, 64), fill(0, 9)), [[9, 0]])
        self.assertEqual(colours(2, 1, *square_back(0, 0, 64, 64), fill(1, 9)), [[9, 0]])


class TestHowManyPlaces(unittest.TestCase):
    def answer(self, *calls, rule=0, value=FULL):
        return ask(opened(4, 3), *calls, fill(rule, value))[-1]

    def test_places_with_a_sample_point_within(self):
        self.assertEqual(self.answer(*square(0, 0, 256, 192)), 12)
        self.assertEqual(self.answer(*square(0, 0, 64, 64)), 1)
        self.assertEqual(self.answer(*square(60, 60, 8, 8)), 4)
        self.assertEqual(self.answer(*square(60, 64, 136, 1)), 0)
        self.assertEqual(self.answer(*square(60, 64, 136, 3)), 4)

    def test_one_sample_point_is_enough_and_none_is_not(self):
        self.assertEqual(self.answer(*SHARES[1]), 1)
        self.assertEqual(self.answer(*SHARES[0]), 0)

    def test_places_count_though_their_colour_stays(self):
        self.assertEqual(self.answer(*square(0, 0, 128, 64), value=0), 2)
        self.assertEqual(self.answer(*SHARES[1], value=1), 1)

    def test_by_rule(self):
        twice = square(0, 0, 256, 192) + square(64, 64, 128, 64)
        self.assertEqual(self.answer(*twice, rule=0), 12)
        self.assertEqual(self.answer(*twice, rule=1), 10)

    def test_rings_apart_in_one_row(self):
        apart = square(0, 0, 64, 64) + square(128, 0, 10, 10) + square(192, 128, 64, 64)
        self.assertEqual(self.answer(*apart), 3)


class TestTheOutlineThen(unittest.TestCase):
    def test_it_is_empty(self):
        outlines = [square(0, 0, 64, 64), SHARES[0], square(-500, -500, 64, 64), ring((5, 5)), ring((0, 0), (64, 64)),
                    [move(0, 0), curve(64, 0, 64, 64)], curves_up_to(4096)[:300]]
        for calls in outlines:
            for rule in (0, 1):
                then = told(opened(1, 1), *calls, fill(rule, 9), box(), line(1, 1), curve(1, 1, 2, 2), box(),
                            within(0, 0, 0), move(3, 4), box())
                self.assertEqual(then[-7:], [[-1], [-1], [-1], [-1], [0], [1], [0, 3, 4, 3, 4]])

    def test_a_second_fill_has_nothing_to_fill(self):
        calls = [*square(0, 0, 64, 64), fill(0, 5), fill(0, 6), fill(1, 7)]
        self.assertEqual(ask(opened(2, 1), *calls)[-3:], [1, 0, 0])
        self.assertEqual(colours(2, 1, *calls), [[5, 0]])

    def test_a_new_outline_stands_alone(self):
        calls = [*square(0, 0, 64, 64), fill(0, 5), *square(64, 0, 64, 64), fill(0, 6)]
        self.assertEqual(ask(opened(2, 1), *calls)[-6:], [1, 1, 2, 3, 4, 1])
        self.assertEqual(colours(2, 1, *calls), [[5, 6]])

    def test_there_is_room_again(self):
        given = ask(opened(1, 1), *curves_up_to(4096), line(0, 0), fill(0, 1), move(0, 0), line(0, 0))
        self.assertEqual(given[-4], -1)
        self.assertEqual(given[-2:], [1, 2])

    def test_an_empty_outline(self):
        for rule in (0, 1):
            calls = [colour(0, 0, 1, 1, 8), fill(rule, FULL)]
            self.assertEqual(ask(opened(2, 2), *calls), [0, 0, 0])
            self.assertEqual(colours(2, 2, *calls), [[8, 0], [0, 0]])


class TestRanges(unittest.TestCase):
    def test_a_wrong_rule_changes_nothing(self):
        for wrong in (-1, 2, LOWEST, HIGHEST):
            calls = [colour(0, 0, 2, 1, 8), *square(0, 0, 64, 64), fill(wrong, 5)]
            then = told(opened(2, 1), *calls, row(0), box(), within(0, 0, 0), line(0, 32), fill(0, 6), row(0))
            self.assertEqual(then[-7:], [[-2], [0, 8, 8], [0, 0, 0, 64, 64], [256], [5], [1], [0, 6, 8]])
            # Without an outline too.
            self.assertEqual(ask(opened(2, 1), fill(wrong, 5)), [0, -2])

    def test_the_least_and_the_greatest_colour(self):
        self.assertEqual(colours(1, 1, *SHARES[256], fill(0, FULL)), [[FULL]])
        self.assertEqual(colours(1, 1, colour(0, 0, 1, 1, FULL), *SHARES[256], fill(1, 0)), [[0]])
        for value in (0, 1, 2147483647, 2147483648, FULL):
            self.assertEqual(ask(opened(1, 1), *SHARES[256], fill(0, value))[-1], 1)

    def test_a_colour_out_of_its_range_changes_nothing(self):
        for wrong in (-1, FULL + 1):
            then = told(opened(1, 1), *SHARES[256], fill(0, wrong), row(0), within(1, 0, 0))
            self.assertEqual(then[-3:], [[-2], [0, 0], [256]])


if __name__ == "__main__":
    unittest.main()
