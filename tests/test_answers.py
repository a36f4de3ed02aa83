"""The interface: how calls stand in the list, and answers in the list given back."""

import contextlib
import inspect
import io
import sys
import unittest

from outlinefill.picture import answers

SEVERAL = [1, 8, 6, 2, 1, 1, 3, 2, 4294967295, 3, -5, 7, 4, 64, 64, 5, 1, 2, 3, 4, 4, 1000001, 0]


class TestAnswers(unittest.TestCase):
    def test_one_call(self):
        self.assertEqual(answers([1, 8, 6]), [1, 0])

    def test_several_calls_in_order(self):
        self.assertEqual(answers(SEVERAL), [1, 0, 1, 0, 1, 1, 1, 2, 1, 18, 1, -2])

    def test_each_call_takes_its_own_numbers(self):
        # Every argument is itself a call's number, so that one taken too many or too few shows.
        calls = [1, 5, 5, 3, 1, 1, 5, 3, 3, 3, 3, 2, 1, 1, 1, 1, 1, 4, 2, 2, 2, 5, 5, 5, 5, 5, 3, 4, 4]
        self.assertEqual(answers(calls), [1, 0, 1, 1, 1, 17, 1, 0, 1, 18, 1, -2, 1, 19])

    def test_a_refusal_is_one_number(self):
        self.assertEqual(answers([1, 8, 6, 1, 0, 6]), [1, 0, 1, -2])
        self.assertEqual(answers([1, 8, 6, 4, 0, 6]), [1, 0, 1, -1])

    def test_gives_back_whole_numbers_in_a_list(self):
        given = answers(SEVERAL)
        self.assertIs(type(given), list)
        self.assertEqual({type(number) for number in given}, {int})

    def test_what_is_handed_in_is_not_changed(self):
        calls = list(SEVERAL)
        given = answers(calls)
        self.assertEqual(calls, SEVERAL)
        self.assertIsNot(given, calls)

    def test_what_is_handed_in_is_not_changed_for_a_while_either(self):
        class Watched(list):
            def refuse(self, *given, **named):
                raise AssertionError("the list was changed")

            append = extend = insert = pop = remove = clear = sort = reverse = refuse
            __setitem__ = __delitem__ = __iadd__ = __imul__ = refuse

        self.assertEqual(answers(Watched(SEVERAL)), answers(SEVERAL))

    def test_nothing_is_kept(self):
        first = answers(SEVERAL)
        self.assertEqual(answers(SEVERAL), first)
        answers([1, 512, 512, 3, 0, 0, 4, 1, 1])
        self.assertEqual(answers(SEVERAL), first)
        self.assertEqual(answers([1, 1, 1, 4, 0, 0]), [1, 0, 1, -1])
        # What was given back is the caller's own.
        first.clear()
        self.assertEqual(len(answers(SEVERAL)), 12)

    def test_prints_and_imports_nothing(self):
        told = io.StringIO()
        loaded = set(sys.modules)
        with contextlib.redirect_stdout(told), contextlib.redirect_stderr(told):
            answers(SEVERAL)
        self.assertEqual(told.getvalue(), "")
        self.assertEqual(set(sys.modules), loaded)

    def test_four_hundred_calls(self):
        calls = [1, 512, 512] + [2, 0, 0, 512, 512, 7] * 399
        self.assertEqual(answers(calls), [1, 0] * 400)
        self.assertEqual(answers([1, 512, 512] * 400), [1, 0] * 400)

    def test_calls_do_not_nest(self):
        calls = [1, 4, 4, 3, 0, 0] + [5, 1, 2, 3, 4] * 255 + [2, 0, 0, 4, 4, 1] * 143
        allowed = sys.getrecursionlimit()
        sys.setrecursionlimit(len(inspect.stack()) + 40)
        try:
            given = answers(calls)
        finally:
            sys.setrecursionlimit(allowed)
        self.assertEqual(given[-288:], [1, 4081] + [1, 0] * 143)


if __name__ == "__main__":
    unittest.main()
