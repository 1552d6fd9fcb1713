import random
import unittest

from line_helper import ask, ask_box, begins, cam, drawn_box, nearest, nearest_by_all_plans, sums, wish

# foot, cams, wished, answer
NEAREST = [
    # No cams.
    ([0], [], [1, 2, 3], [6, 0, 1]),
    ([0, 1, 2, 3], [], [400] * 8, [3200, 0, 1]),
    # All cams stay in the box.
    ([0], [[5, 5, 5]], [0, 0, 0], [0, 0, 1, 3]),
    ([0], [[5, 5, 5], [1, 0, 0], [9, 9, 9]], [0, 0, 0], [0, 0, 1, 3, 3, 3]),
    ([0], [[3, 0], [0, 9]], [1, 0], [1, 0, 1, 2, 2]),
    # A wish that a plan meets wholly.
    ([0], [[1, 2, 4]], [4, 1, 2], [0, 1, 1, 2]),
    ([0], [[1, 2, 4], [10, 20, 40]], [42, 14, 21], [0, 2, 1, 1, 2]),
    ([0], [[1, 2, 4], [10, 20, 40]], [40, 10, 20], [0, 1, 1, 3, 2]),
    ([0, 1, 4, 9], [[10, 0, 0, 0, 0, 0, 0, 0]], [1, 0, 1, 6, 9, 10, 9, 6], [0, 1, 1, 3]),
    # As good in what's off, but not in the number of cams.
    ([0], [[2, 0]], [1, 0], [1, 0, 1, 2]),
    ([0], [[1, 1], [0, 0]], [1, 1], [0, 1, 2, 0, 2]),
    ([0], [[0, 0], [1, 1]], [1, 1], [0, 1, 2, 2, 0]),
    ([0], [[1, 2, 0], [2, 1, 0], [3, 3, 0]], [3, 3, 0], [0, 1, 1, 3, 3, 0]),
    ([0], [[3, 3, 0], [1, 2, 0], [2, 1, 0]], [3, 3, 0], [0, 1, 1, 0, 3, 3]),
    # The least off has more cams: off comes first.
    ([0], [[3, 3, 1], [1, 2, 0], [2, 1, 0]], [3, 3, 0], [0, 2, 1, 3, 0, 0]),
    # Several plans as good: their count, and the earliest.
    ([0], [[3, 3, 3]], [3, 3, 3], [0, 1, 3, 0]),
    ([0], [[1, 0], [1, 0]], [1, 0], [0, 1, 2, 0, 2]),
    ([0], [[1, 0], [1, 0]], [1, 1], [0, 2, 2, 0, 1]),
    ([0], [[0, 1], [1, 0], [0, 1]], [1, 0], [0, 1, 3, 1, 2, 2]),
    ([0], [[7, 0, 0], [7, 0, 0], [7, 0, 0]], [7, 7, 7], [0, 3, 6, 0, 1, 2]),
    ([0], [[5] * 8] * 4, [20] * 8, [0, 4, 4096, 0, 0, 0, 0]),
    ([0], [[5] * 8] * 4, [10] * 8, [0, 2, 6 * 64, 0, 0, 8, 8]),
    # The lever may be above what is wished.
    ([0], [[5, 5]], [4, 4], [2, 1, 2, 0]),
    ([0, 5], [[9, 0, 0]], [9, 3, 3], [2, 1, 1, 0]),
]


class Nearest(unittest.TestCase):
    def test_nearest_plans(self):
        for foot, cams, wished, answer in NEAREST:
            with self.subTest(foot=foot, cams=cams, wished=wished):
                self.assertEqual(ask_box(foot, cams, wished, nearest()), [answer])

    def test_at_the_beginning_of_a_line(self):
        self.assertEqual(ask(nearest()), [[0, 0, 1]])
        self.assertEqual(ask(cam([1, 1]), nearest(), begins(2, [0]), nearest()), [[0], [0, 0, 1, 2], [0], [0, 0, 1]])

    def test_by_the_wish_of_now(self):
        given = ask(cam([5, 0]), nearest(), wish([0, 5]), nearest(), wish([5, 0]), nearest(), wish([401, 0]), nearest())
        self.assertEqual(given, [
            [0], [0, 0, 1, 2], [0], [0, 1, 1, 1], [0], [0, 1, 1, 0], [-1], [0, 1, 1, 0],
        ])

    def test_by_all_cams_of_now(self):
        given = ask(wish([9, 2]), cam([5, 1]), nearest(), cam([1, 4]), nearest(), cam([2]), nearest())
        self.assertEqual(given, [[0], [0], [5, 1, 1, 0], [1], [0, 2, 1, 0, 1], [-1], [0, 2, 1, 0, 1]])


class NearestAgainstAllPlans(unittest.TestCase):
    def check(self, foot, cams, wished):
        answer = nearest_by_all_plans(foot, cams, wished)
        with self.subTest(foot=foot, cams=cams, wished=wished):
            self.assertEqual(ask_box(foot, cams, wished, nearest()), [answer])

    def test_drawn_boxes_of_up_to_three_cams(self):
        chance = random.Random(51)
        for places in range(2, 9):
            for length in range(1, 5):
                for cams in range(4):
                    # Low heights bring several plans that are as good.
                    for highest in (1, 3, 30, 200):
                        self.check(*drawn_box(chance, places, cams, length, highest))

    def test_drawn_boxes_of_four_cams(self):
        chance = random.Random(52)
        for places in (2, 3, 4, 5, 6):
            for highest in (1, 2, 5, 100):
                self.check(*drawn_box(chance, places, 4, chance.randint(1, 4), highest))

    def test_four_cams_of_eight_places(self):
        chance = random.Random(53)
        for length in range(1, 5):
            for highest in (1, 200):
                self.check(*drawn_box(chance, 8, 4, length, highest))

    def test_the_sum_of_the_nearest_plan_is_as_much_off(self):
        chance = random.Random(54)
        for cams in range(5):
            drawn = drawn_box(chance, 5, cams, 3, 100)
            answer = ask_box(*drawn, nearest())[0]
            self.assertEqual(ask_box(*drawn, sums(answer[3:]))[0][0], answer[0], drawn)


if __name__ == "__main__":
    unittest.main()
