import builtins
import contextlib
import io
import random
import unittest
from unittest import mock

from camshow.show import UnknownCall, answers
from line_helper import begins, best, best_by_all_plans, box, cam, line_of, moves, nearest, nearest_by_all_plans
from line_helper import sums, taken_apart, wish

SOME_CALLS = [
    begins(3, [0, 2]), cam([9, 0, 0]), wish([400, 0, 1]), moves(0), moves(1),
    begins(9, [0]), cam([101, 0, 0]), wish([401, 0, 0]), cam([1, 2, 3]), moves(1),
]
SOME_ANSWERS = [
    1, 0, 1, 0, 1, 0, 4, 9, 9, 7, 7, 1, -2,
    1, -1, 1, -1, 1, -1, 1, 1, 4, 3, 1, 2, 3,
]

# All seven calls, with begins between them and the shortest and longest answers beside one another.
SEVEN_CALLS = [
    begins(4, [0, 0]), cam([0, 5, 0, 0]), wish([5, 10, 10, 5]), moves(0), sums([2]), nearest(), best(), sums([5]),
    begins(2, [0]), nearest(), best(), sums([]),
]
SEVEN_ANSWERS = [
    1, 0, 1, 0, 1, 0, 5, 5, 5, 5, 5, 0, 6, 15, 10, 5, 0, 5, 5, 4, 15, 1, 4, 0, 8, 0, 1, 2, 0, 0, 0, 5, 0, 1, -1,
    1, 0, 3, 0, 0, 1, 5, 0, 0, 1, 0, 0, 4, 0, 0, 0, 0,
]


class UnchangedList(list):
    def refuse(self, *given, **named):
        raise AssertionError("the list that was handed in is changed")

    append = clear = extend = insert = pop = remove = reverse = sort = refuse
    __setitem__ = __delitem__ = __iadd__ = __imul__ = refuse


def refuse_call(*given, **named):
    raise AssertionError("something is printed, read or imported")


class Line(unittest.TestCase):
    def test_one_call(self):
        self.assertEqual(answers([0, 2, 1, 0]), [1, 0])
        self.assertEqual(answers([0, 2, 0]), [1, -1])
        self.assertEqual(answers([1, 2, 5, 6]), [1, 0])
        self.assertEqual(answers([1, 0]), [1, -1])
        self.assertEqual(answers([2, 2, 5, 6]), [1, 0])
        self.assertEqual(answers([2, 0]), [1, -1])
        self.assertEqual(answers([3, 0]), [1, -2])
        self.assertEqual(answers([4, 0]), [4, 0, 0, 0, 0])
        self.assertEqual(answers([4, 1, 0]), [1, -1])
        self.assertEqual(answers([5]), [3, 0, 0, 1])
        self.assertEqual(answers([6]), [5, 0, 0, 1, 0, 0])

    def test_counts_ahead_of_each_answer(self):
        self.assertEqual(answers(line_of(SOME_CALLS)), SOME_ANSWERS)
        self.assertEqual(answers(line_of(SEVEN_CALLS)), SEVEN_ANSWERS)
        for places in range(2, 9):
            given = answers(begins(places, [0]) + cam([6] * places) + moves(0))
            self.assertEqual(given, [1, 0, 1, 0, places + 1] + [6] * (places + 1))

    def test_sixty_calls(self):
        self.assertEqual(answers(line_of(SOME_CALLS * 6)), SOME_ANSWERS * 6)
        self.assertEqual(answers(line_of(SEVEN_CALLS * 5)), SEVEN_ANSWERS * 5)

    def test_sixty_calls_with_the_longest_rows(self):
        refused = [cam([5] * 12), wish([5] * 12), begins(8, [0] * 6), sums([0] * 12)]
        calls = [begins(8, [0, 1, 2, 3])] + refused * 14 + [sums([8] * 12)]
        calls = calls + [cam([7] * 8), moves(0)]
        self.assertEqual(len(calls), 60)
        self.assertEqual(answers(line_of(calls)), [1, 0] + [1, -1] * 57 + [1, 0, 9] + [7] * 9)

    def test_rows_of_refused_calls_are_passed_over(self):
        calls = [cam([3, 0, 3, 1]), wish([0, 2, 1, 0, 1]), begins(1, [3, 0, 3, 0, 3]), sums([5, 6, 5]), moves(0)]
        self.assertEqual(answers(line_of(calls)), [1, -1, 1, -1, 1, -1, 1, -1, 1, -2])

    def test_whole_numbers_in_one_list(self):
        given = answers(line_of(SOME_CALLS + SEVEN_CALLS))
        self.assertIs(type(given), list)
        for number in given:
            self.assertIs(type(number), int)

    def test_a_number_of_no_call(self):
        for line in ([7], [100, 0], [3, 0, 4294967295]):
            with self.subTest(line=line), self.assertRaises(UnknownCall):
                answers(line)


class FourCamsOfEightPlaces(unittest.TestCase):
    def test_nearest_and_best_as_often_as_any(self):
        chance = random.Random(70)
        foot = [0, 2, 9, 20]
        cams = [[chance.randint(0, 100) for place in range(8)] for number in range(4)]
        wishes = [[chance.randint(lowest, 400) for place in range(8)] for lowest in (0, 150, 400)]
        told = [[[0], nearest_by_all_plans(foot, cams, row), best_by_all_plans(foot, cams, row)] for row in wishes]
        calls = box(foot, cams, wishes[0])
        expected = [[0], [0], [1], [2], [3], [0]]
        for turn in range(18):
            calls = calls + [wish(wishes[turn % 3]), nearest(), best()]
            expected = expected + told[turn % 3]
        self.assertEqual(len(calls), 60)
        line = UnchangedList(line_of(calls))
        before = list(line)
        first = answers(line)
        self.assertEqual(taken_apart(first), expected)
        self.assertEqual(list(line), before)
        self.assertEqual(answers(line), first)

    def test_nothing_but_best_behind_the_box(self):
        foot, cams, wished = [0, 0, 0, 0], [[100] * 8] * 4, [400] * 8
        answer = [0, 0, 1, 8, 8, 8, 8] + [400] * 8
        given = answers(line_of(box(foot, cams, wished) + [best()] * 54))
        self.assertEqual(taken_apart(given)[6:], [answer] * 54)


class NothingKept(unittest.TestCase):
    def test_what_is_handed_in_is_not_changed(self):
        for calls, given in ((SOME_CALLS * 6, SOME_ANSWERS * 6), (SEVEN_CALLS * 5, SEVEN_ANSWERS * 5)):
            line = UnchangedList(line_of(calls))
            before = list(line)
            self.assertEqual(answers(line), given)
            self.assertEqual(list(line), before)

    def test_the_same_again_for_the_same_list(self):
        line = line_of([cam([4, 5]), begins(5, [0, 1]), cam([5, 0, 0, 0, 0]), wish([1, 2, 3, 4, 5]), moves(0)])
        first = answers(line)
        self.assertEqual(first, [1, 0, 1, 0, 1, 0, 1, 0, 6, 5, 5, 4, 0, 0, 4])
        self.assertEqual(answers(line), first)
        self.assertEqual(answers(line_of(SEVEN_CALLS)), SEVEN_ANSWERS)
        self.assertEqual(answers(line_of(SEVEN_CALLS)), SEVEN_ANSWERS)

    def test_each_line_is_about_a_new_show(self):
        answers(line_of([begins(8, [0, 0, 0, 0]), cam([1] * 8), wish([9] * 8)]))
        self.assertEqual(answers(line_of([moves(0), cam([3, 4]), moves(0), wish([0, 0])])),
                         [1, -2, 1, 0, 3, 4, 3, 4, 1, 0])
        answers(line_of([begins(8, [0, 0, 0, 0]), cam([1] * 8), wish([9] * 8), nearest(), best()]))
        self.assertEqual(answers(line_of([nearest(), best(), sums([])])), [3, 0, 0, 1, 5, 0, 0, 1, 0, 0, 4, 0, 0, 0, 0])

    def test_changing_what_was_given_back_changes_no_later_answer(self):
        line = line_of(SEVEN_CALLS)
        answers(line).clear()
        self.assertEqual(answers(line), SEVEN_ANSWERS)

    def test_nothing_is_printed_read_or_imported(self):
        line = line_of(SOME_CALLS + SEVEN_CALLS)
        printed = io.StringIO()
        with contextlib.ExitStack() as stack:
            stack.enter_context(contextlib.redirect_stdout(printed))
            stack.enter_context(contextlib.redirect_stderr(printed))
            for name in ("print", "open", "input", "__import__"):
                stack.enter_context(mock.patch.object(builtins, name, refuse_call))
            given = answers(line)
        self.assertEqual(given, SOME_ANSWERS + SEVEN_ANSWERS)
        self.assertEqual(printed.getvalue(), "")


if __name__ == "__main__":
    unittest.main()
