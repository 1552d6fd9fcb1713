import random
import unittest

from line_helper import GREATEST, ask, ask_box, begins, best, cam, drawn_box, lever_by_places, motion_by_places
from line_helper import moves, nearest, sums, wish

# foot, cams, wished, plan, answer
SUMS = [
    ([0], [[1, 2, 4]], [0, 0, 0], [0], [7, 4, 1, 2, 4]),
    ([0], [[1, 2, 4]], [0, 0, 0], [1], [7, 4, 2, 4, 1]),
    ([0], [[1, 2, 4]], [0, 0, 0], [2], [7, 4, 4, 1, 2]),
    ([0], [[1, 2, 4]], [0, 0, 0], [3], [0, 0, 0, 0, 0]),
    ([0], [[1, 2, 4]], [4, 1, 2], [2], [0, 0, 4, 1, 2]),
    ([0], [[1, 2, 4]], [4, 1, 2], [3], [7, 4, 0, 0, 0]),
    # Above the wish at one place and below it at another: neither makes up for the other.
    ([0], [[1, 2, 4]], [3, 2, 2], [0], [4, 2, 1, 2, 4]),
    ([0], [[5, 0]], [0, 5], [0], [10, 5, 5, 0]),
    ([0], [[5, 0]], [0, 400], [0], [405, 400, 5, 0]),
    # The most at one place, be it the first or the last, above or below.
    ([0], [[9, 1, 1]], [0, 0, 0], [0], [11, 9, 9, 1, 1]),
    ([0], [[1, 1, 9]], [0, 0, 0], [0], [11, 9, 1, 1, 9]),
    ([0], [[1, 1, 1]], [2, 2, 9], [0], [10, 8, 1, 1, 1]),
    ([0], [[1, 1, 1]], [9, 2, 2], [0], [10, 8, 1, 1, 1]),
    # Every cam turned by another number of places.
    ([0], [[1, 2, 4], [10, 20, 40]], [0, 0, 0], [1, 2], [77, 42, 42, 14, 21]),
    ([0], [[1, 2, 4], [10, 20, 40]], [0, 0, 0], [3, 2], [70, 40, 40, 10, 20]),
    ([0], [[1, 2, 4], [10, 20, 40]], [0, 0, 0], [1, 3], [7, 4, 2, 4, 1]),
    ([0], [[1, 2, 4, 8], [1, 2, 4, 8], [1, 2, 4, 8], [1, 2, 4, 8]], [15] * 4, [3, 0, 2, 1], [0, 0, 15, 15, 15, 15]),
    ([0], [[1, 0, 0, 0], [10, 0, 0, 0], [100, 0, 0, 0], [99, 0, 0, 0]], [0] * 4, [3, 2, 1, 0],
     [210, 100, 99, 1, 10, 100]),
    ([0, 2], [[9, 0, 0, 0], [5, 0, 0, 0]], [0] * 4, [1, 3], [34, 10, 7 + 3, 0 + 5, 7 + 3, 9 + 0]),
    ([0, 1, 4], [[10, 0, 0, 0, 0, 0], [0, 5, 0, 0, 0, 0]], [0] * 6, [2, 5],
     [55, 13, 6 + 1, 0 + 4, 6 + 5, 9 + 4, 10 + 1, 9]),
    ([0, 1, 4, 9], [[10, 0, 0, 0, 0, 0, 0, 0]], [0] * 8, [3], [42, 10, 1, 0, 1, 6, 9, 10, 9, 6]),
    ([0, 50, 60, 3], [[20, 9], [0, 20]], [0, 0], [1, 0], [74, 40, 17 + 17, 20 + 20]),
    ([0, 0, 0, 0], [[100] * 8] * 4, [400] * 8, [0, 3, 5, 7], [0, 0] + [400] * 8),
    ([0], [[100] * 8] * 4, [0] * 8, [0, 3, 5, 7], [3200, 400] + [400] * 8),
    ([0], [[100] * 8] * 4, [400] * 8, [8, 8, 8, 8], [3200, 400] + [0] * 8),
]


class SumAnswered(unittest.TestCase):
    def test_sums(self):
        for foot, cams, wished, plan, answer in SUMS:
            with self.subTest(foot=foot, cams=cams, wished=wished, plan=plan):
                self.assertEqual(ask_box(foot, cams, wished, sums(plan)), [answer])

    def test_no_cams_and_an_empty_plan(self):
        self.assertEqual(ask(sums([])), [[0, 0, 0, 0]])
        self.assertEqual(ask(wish([3, 400]), sums([])), [[0], [403, 400, 0, 0]])
        self.assertEqual(ask_box([0, 1], [], [1, 9, 2], sums([])), [[12, 9, 0, 0, 0]])

    def test_every_turn_of_one_cam(self):
        for places in range(2, 9):
            radii = list(range(1, places + 1))
            for turn in range(places):
                lever = radii[turn:] + radii[:turn]
                with self.subTest(places=places, turn=turn):
                    self.assertEqual(ask_box([0], [radii], [0] * places, sums([turn])),
                                     [[sum(radii), places] + lever])

    def test_the_number_of_places_leaves_each_cam_in_the_box(self):
        for places in range(2, 9):
            for number in range(4):
                plan = [0] * 4
                plan[number] = places
                cams = [[3 ** at] * places for at in range(4)]
                height = 40 - 3 ** number
                with self.subTest(places=places, number=number):
                    self.assertEqual(ask_box([0, 1], cams, [0] * places, sums(plan)),
                                     [[height * places, height] + [height] * places])

    def test_against_another_way_of_reckoning(self):
        chance = random.Random(5)
        for places in range(2, 9):
            for length in range(1, 5):
                for cams in range(5):
                    foot, radii, wished = drawn_box(chance, places, cams, length, chance.choice((4, 40, 200)))
                    plan = [chance.randint(0, places) for number in range(cams)]
                    lever = lever_by_places([motion_by_places(row, foot) for row in radii], plan, places)
                    off = [max(lever[at] - wished[at], wished[at] - lever[at]) for at in range(places)]
                    with self.subTest(foot=foot, radii=radii, wished=wished, plan=plan):
                        self.assertEqual(ask_box(foot, radii, wished, sums(plan)),
                                         [[sum(off), sorted(off)[-1]] + lever])


class SumRefused(unittest.TestCase):
    def test_too_few_and_too_many_numbers(self):
        for cams in range(5):
            for length in range(13):
                if length != cams:
                    with self.subTest(cams=cams, length=length):
                        self.assertEqual(ask_box([0], [[1, 2, 3]] * cams, [0, 0, 0], sums([0] * length)), [[-1]])

    def test_a_number_above_the_number_of_places(self):
        for places in range(2, 9):
            for place in range(4):
                for turn in (places + 1, 9, 2147483648, GREATEST):
                    plan = [places] * 4
                    plan[place] = turn
                    with self.subTest(plan=plan):
                        self.assertEqual(ask_box([0], [[1] * places] * 4, [0] * places, sums(plan)), [[-1]])

    def test_changes_nothing(self):
        seen = [moves(0), moves(1), sums([1, 0]), nearest(), best()]
        foot, cams, wished = [0, 2], [[9, 0, 0, 0], [1, 2, 3, 4]], [9, 8, 9, 8]
        before = ask_box(foot, cams, wished, *seen)
        for plan in ([], [0], [0, 5], [GREATEST, 0], [0, 0, 0]):
            with self.subTest(plan=plan):
                self.assertEqual(ask_box(foot, cams, wished, sums(plan), *seen), [[-1]] + before)

    def test_a_sum_that_is_answered_changes_nothing_either(self):
        seen = [moves(0), sums([0]), sums([3]), nearest(), best(), cam([1, 1, 1, 1])]
        once = ask_box([0, 2], [[9, 0, 0, 0]], [9, 8, 9, 8], *seen)
        self.assertEqual(ask_box([0, 2], [[9, 0, 0, 0]], [9, 8, 9, 8], *seen[:5], *seen), once[:5] + once)

    def test_a_plan_for_the_cams_before_begins(self):
        self.assertEqual(ask(cam([1, 2]), begins(2, [0]), sums([0]), sums([])), [[0], [0], [-1], [0, 0, 0, 0]])


if __name__ == "__main__":
    unittest.main()
