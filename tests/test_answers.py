"""The interface: how calls stand in the list, and answers in the list given back."""

import contextlib
import io
import random
import sys
import unittest

from outlinefill.picture import answers
from plain import PlainPicture

SEVERAL = [1, 8, 6, 2, 1, 1, 3, 2, 4294967295, 3, -5, 7, 4, 64, 64, 5, 1, 2, 3, 4, 4, 1000001, 0]
# All nine calls: a triangle over half of a picture 2 wide and 1 high.
ALL_NINE = [1, 2, 1, 2, 1, 0, 1, 1, 8, 3, 0, 0, 4, 128, 0, 5, 128, 64, 128, 64, 9, 7, 0, 1, 0]
ALL_NINE += [6, 0, 4278190080, 8, 0, 9]
NINE_ANSWERS = [1, 0, 1, 0, 1, 1, 1, 2, 1, 18, 5, 0, 0, 0, 128, 64, 1, 192, 1, 2, 3, 0, 1073741824, 3204448258, 1, -1]


FAR = (-1000001, -1000000, 1000000, 1000001, 5000)


class TestAnswers(unittest.TestCase):
    def test_one_call(self):
        self.assertEqual(answers([1, 8, 6]), [1, 0])

    def test_several_calls_in_order(self):
        self.assertEqual(answers(SEVERAL), [1, 0, 1, 0, 1, 1, 1, 2, 1, 18, 1, -2])

    def test_all_nine_calls(self):
        self.assertEqual(answers(ALL_NINE), NINE_ANSWERS)

    def test_each_call_takes_its_own_numbers(self):
        # Every argument is itself a call's number, so that one taken too many or too few shows.
        calls = [1, 5, 5, 3, 1, 1, 5, 3, 3, 3, 3, 2, 1, 1, 1, 1, 1, 4, 2, 2, 2, 5, 5, 5, 5, 5, 3, 4, 4]
        self.assertEqual(answers(calls), [1, 0, 1, 1, 1, 17, 1, 0, 1, 18, 1, -2, 1, 19])
        calls = [1, 2, 3, 9, 7, 1, 1, 1, 6, 1, 8, 8, 1, 9, 3, 9, 9, 9, 7, 7, 7, 7, 8, 8, 6, 6, 6, 9]
        self.assertEqual(answers(calls), [1, 0, 1, -1, 1, 0, 1, 0, 3, 0, 0, 0, 1, -1, 1, 1, 5, 0, 9, 9, 9, 9, 1, -2,
                                          1, -2, 1, -2, 5, 0, 9, 9, 9, 9])

    def test_how_many_numbers_are_answered(self):
        for width in (1, 2, 7, 512):
            given = answers([1, width, 1, 8, 0, 8, 1, 9, 3, 4, 4, 9, 6, 0, 5, 9, 8, 0])
            row = [width + 1] + [0] * (width + 1)
            self.assertEqual(given, [1, 0] + row + [1, -2, 1, -1, 1, 1, 5, 0, 4, 4, 4, 4, 1, 0, 1, -1] + row)

    def test_a_refusal_is_one_number(self):
        self.assertEqual(answers([1, 8, 6, 1, 0, 6]), [1, 0, 1, -2])
        self.assertEqual(answers([1, 8, 6, 4, 0, 6]), [1, 0, 1, -1])
        self.assertEqual(answers([1, 8, 6, 6, 2, 0, 7, 2, 0, 0, 8, 6, 9]), [1, 0, 1, -2, 1, -2, 1, -2, 1, -1])

    def test_gives_back_whole_numbers_in_a_list(self):
        for calls in (SEVERAL, ALL_NINE):
            given = answers(calls)
            self.assertIs(type(given), list)
            self.assertEqual({type(number) for number in given}, {int})

    def test_what_is_handed_in_is_not_changed(self):
        for calls in (SEVERAL, ALL_NINE):
            handed = list(calls)
            given = answers(handed)
            self.assertEqual(handed, calls)
            self.assertIsNot(given, handed)

    def test_what_is_handed_in_is_not_changed_for_a_while_either(self):
        class Watched(list):
            def refuse(self, *given, **named):
                raise AssertionError("the list was changed")

            append = extend = insert = pop = remove = clear = sort = reverse = refuse
            __setitem__ = __delitem__ = __iadd__ = __imul__ = refuse

        for calls in (SEVERAL, ALL_NINE):
            self.assertEqual(answers(Watched(calls)), answers(calls))

    def test_nothing_is_kept(self):
        first = answers(ALL_NINE)
        self.assertEqual(answers(ALL_NINE), first)
        answers([1, 512, 512, 2, 0, 0, 512, 512, 9, 3, 0, 0, 4, 1, 1])
        self.assertEqual(answers(ALL_NINE), first)
        answers(SEVERAL)
        self.assertEqual(answers(ALL_NINE), first)
        self.assertEqual(answers([1, 1, 1, 4, 0, 0, 9, 8, 0]), [1, 0, 1, -1, 1, -1, 2, 0, 0])
        # What was given back is the caller's own.
        first.clear()
        self.assertEqual(answers(ALL_NINE), NINE_ANSWERS)

    def test_prints_and_imports_nothing(self):
        said = io.StringIO()
        loaded = set(sys.modules)
        with contextlib.redirect_stdout(said), contextlib.redirect_stderr(said):
            answers(SEVERAL)
            answers(ALL_NINE)
        self.assertEqual(said.getvalue(), "")
        self.assertEqual(set(sys.modules), loaded)


class TestManyOrders(unittest.TestCase):
    def some_call(self, maker):
        """Any of the nine calls, some of them to be refused."""
        def coordinate():
            return maker.choice((maker.randint(-40, 240), maker.randint(-40, 240), maker.choice(FAR)))

        def place():
            return maker.randint(-1, 4)

        def rule():
            return maker.choice((-1, 0, 0, 0, 1, 1, 1, 2))

        value = maker.choice((0, 255, 4294967295, maker.randint(0, 4294967295)))
        number = maker.choice((1, 2, 2, 3, 3, 3, 4, 4, 4, 4, 4, 5, 5, 6, 6, 7, 7, 8, 8, 9))
        given = {
            1: [place(), place()],
            2: [place(), place(), place(), place(), value],
            3: [coordinate(), coordinate()],
            4: [coordinate(), coordinate()],
            5: [coordinate(), coordinate(), coordinate(), coordinate()],
            6: [rule(), value],
            7: [rule(), place(), place()],
            8: [place()],
            9: [],
        }
        return [number] + given[number]

    def test_as_told_plainly(self):
        maker = random.Random(21)
        met = set()
        for turn in range(150):
            calls = [[1, maker.randint(1, 3), maker.randint(1, 3)]] + [self.some_call(maker) for k in range(40)]
            picture = PlainPicture()
            due = []
            for call in calls:
                answer = picture.answer(*call)
                met.add((call[0], min(answer[0], 0)))
                due += [len(answer)] + answer
            with self.subTest(calls=calls):
                self.assertEqual(answers([number for call in calls for number in call]), due)
        taken = {(number, 0) for number in range(1, 10)}
        out_of_range = {(number, -2) for number in range(1, 9)}
        self.assertEqual(met, taken | out_of_range | {(4, -1), (5, -1), (9, -1)})


if __name__ == "__main__":
    unittest.main()
