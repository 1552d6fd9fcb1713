import itertools
import random
import unittest

from line_helper import ask, ask_box, begins, best, best_by_all_plans, cam, drawn_box, every_plan_by_itself
from line_helper import motion_by_places, nearest, sums, wish

# By a flat foot that reaches one place to either side a cam lifts three places or more; this wish is of two such cams.
FLAT = [0, 0]
TWO_WIDE = [5, 10, 10, 5]

# foot, cams, wished, answer
BEST = [
    # No cams: all that's wished is left.
    ([0], [], [5, 7], [0, 0, 1, 5, 7]),
    ([0, 2], [], [9, 0, 0], [7, 0, 1, 2, 0, 0]),
    ([0, 2], [], [9, 9, 9], [0, 0, 1, 9, 9, 9]),
    (FLAT, [], TWO_WIDE, [10, 0, 1, 5, 5, 5, 5]),
    # A point takes whatever is left, so no cam of the box is needed.
    ([0], [[4, 1, 0], [2, 2, 2]], [9, 8, 7], [0, 0, 1, 3, 3, 9, 8, 7]),
    # 0 everywhere: no plan but those whose lever is 0.
    ([0, 1], [[1, 0, 0], [0, 0, 0]], [0, 0, 0], [0, 0, 1, 3, 3, 0, 0, 0]),
    ([0], [[0, 0]] * 4, [0, 0], [0, 0, 1, 2, 2, 2, 2, 0, 0]),
    # Nearer, but somewhere higher than wished.
    ([0, 5], [[9, 0, 0]], [9, 3, 3], [1, 0, 1, 3, 8, 3, 3]),
    ([0, 5], [[9, 0, 0]], [9, 4, 4], [0, 0, 1, 3, 9, 4, 4]),
    (FLAT, [[0, 6, 0, 0]], TWO_WIDE, [10, 0, 1, 4, 5, 5, 5, 5]),
    # As high as wished is not higher.
    (FLAT, [[0, 5, 0, 0]], TWO_WIDE, [0, 1, 2, 0, 0, 0, 5, 0]),
    # As good in what's lacking, but not in the number of cams.
    (FLAT, [[0, 5, 0, 0], [0, 0, 0, 0]], TWO_WIDE, [0, 1, 2, 0, 4, 0, 0, 5, 0]),
    (FLAT, [[0, 0, 0, 0], [0, 5, 0, 0]], TWO_WIDE, [0, 1, 2, 4, 0, 0, 0, 5, 0]),
    # Several as good: either cam, at either side.
    (FLAT, [[0, 5, 0, 0], [0, 5, 0, 0]], TWO_WIDE, [0, 1, 4, 0, 4, 0, 0, 5, 0]),
    (FLAT, [[0, 0, 0, 5], [9, 9, 9, 9]], TWO_WIDE, [0, 1, 2, 1, 4, 0, 5, 0, 0]),
    # The cut cam is above a radius of 100.
    ([0], [], [400, 0], [0, 0, 1, 400, 0]),
    ([0, 100, 100, 100], [], [400] * 8, [0, 0, 1] + [400] * 8),
    ([0, 100], [], [400, 300, 199, 0], [201 + 1, 0, 1, 100, 299, 100, 0]),
    # Feet that reach round the whole cam and more.
    ([0, 4], [], [20, 9], [7, 0, 1, 13, 9]),
    ([0, 50, 60, 3], [], [20, 9], [8, 0, 1, 12, 9]),
    ([0, 50, 3], [], [20, 9, 0], [17 + 6, 0, 1, 3, 3, 0]),
    ([0, 9, 9, 0], [], [5, 8, 2], [0, 0, 1, 5, 8, 2]),
    ([0, 90, 90, 1], [], [50, 7, 7, 7], [42, 0, 1, 8, 7, 7, 7]),
    ([0, 90, 2, 90], [], [99, 0, 50, 0], [47, 0, 1, 52, 0, 50, 0]),
    ([0, 0, 0, 0], [], [3, 3, 4, 3, 9, 3], [7, 0, 1, 3, 3, 3, 3, 3, 3]),
    ([0, 1, 2, 3], [], [9, 0, 0, 0, 0, 0, 0, 0], [8, 0, 1, 1, 0, 0, 0, 0, 0, 0, 0]),
]


class Best(unittest.TestCase):
    def test_best_plans(self):
        for foot, cams, wished, answer in BEST:
            with self.subTest(foot=foot, cams=cams, wished=wished):
                self.assertEqual(ask_box(foot, cams, wished, best()), [answer])

    def test_at_the_beginning_of_a_line(self):
        self.assertEqual(ask(best()), [[0, 0, 1, 0, 0]])
        self.assertEqual(ask(wish([3, 400]), best(), begins(3, [0]), best()),
                         [[0], [0, 0, 1, 3, 400], [0], [0, 0, 1, 0, 0, 0]])

    def test_the_nearest_plan_is_not_the_best(self):
        given = ask_box(FLAT, [[0, 5, 0, 0], [5, 5, 5, 5]], TWO_WIDE, nearest(), best())
        self.assertEqual(given, [[5, 2, 8, 0, 0], [0, 1, 2, 0, 4, 0, 0, 5, 0]])
        # Here the nearest plan is nowhere higher than wished, but what it leaves no cam can fill.
        given = ask_box(FLAT, [[5, 0, 0, 0]], TWO_WIDE, nearest(), sums([0]), best())
        self.assertEqual(given, [[15, 1, 4, 0], [15, 10, 5, 5, 0, 5], [0, 1, 2, 2, 0, 5, 0, 0]])

    def test_by_the_wish_and_the_cams_of_now(self):
        given = ask(begins(4, FLAT), wish(TWO_WIDE), best(), cam([0, 5, 0, 0]), best(), wish([5, 5, 5, 5]), best())
        self.assertEqual(given, [
            [0], [0], [10, 0, 1, 5, 5, 5, 5], [0], [0, 1, 2, 0, 0, 0, 5, 0], [0], [0, 0, 1, 4, 5, 5, 5, 5],
        ])

    def test_lacking_is_what_is_left_less_the_motion_of_the_cut_cam(self):
        chance = random.Random(60)
        for places in range(2, 9):
            for length in range(1, 5):
                drawn = drawn_box(chance, places, 2, length, chance.choice((10, 200)))
                answer = ask_box(*drawn, best())[0]
                lever = ask_box(*drawn, sums(answer[3:5]))[0][2:]
                motion = motion_by_places(answer[5:], drawn[0])
                lacking = [wished - height - more for wished, height, more in zip(drawn[2], lever, motion)]
                with self.subTest(drawn=drawn):
                    self.assertGreaterEqual(min(lacking), 0)
                    self.assertEqual(sum(lacking), answer[0])


class BestAgainstAllPlans(unittest.TestCase):
    def check(self, foot, cams, wished):
        answer = best_by_all_plans(foot, cams, wished)
        with self.subTest(foot=foot, cams=cams, wished=wished):
            self.assertEqual(ask_box(foot, cams, wished, best()), [answer])
        return answer

    def test_drawn_boxes_of_up_to_three_cams(self):
        chance = random.Random(61)
        cams_of_the_best = {}
        for places in range(2, 9):
            for length in range(1, 5):
                for cams in range(4):
                    for highest in (2, 5, 50, 200):
                        foot, radii, wished = drawn_box(chance, places, cams, length, highest)
                        # A wish that is higher throughout leaves room for more plans.
                        wished = [height + highest // 2 for height in wished]
                        answer = self.check(foot, radii, [min(height, 400) for height in wished])
                        cams_of_the_best[answer[1]] = True
        self.assertEqual(sorted(cams_of_the_best), [0, 1, 2, 3])

    def test_drawn_boxes_of_low_radii_below_high_wishes(self):
        chance = random.Random(62)
        for places in range(2, 7):
            for length in range(2, 5):
                foot = [0] + [chance.randint(0, 6) for aside in range(1, length)]
                cams = [[chance.choice((0, 0, 3, 8)) for place in range(places)] for number in range(4)]
                self.check(foot, cams, [chance.randint(0, 40) for place in range(places)])

    def test_four_cams_of_eight_places(self):
        chance = random.Random(63)
        for length in range(1, 5):
            foot, cams, wished = drawn_box(chance, 8, 4, length, 40)
            self.check(foot, cams, wished)
            self.check(foot, cams, [chance.randint(100, 400) for place in range(8)])
            self.check([0, 0, 0, 0][:length], cams, [chance.randint(160, 200) for place in range(8)])


class NoLessLacking(unittest.TestCase):
    def least_by_all_cams(self, foot, cams, wished):
        """The least lacking over all plans and all cams that might be cut, none of them reckoned from what's left."""
        places = len(wished)
        radii = itertools.product(range(max(wished) + 1), repeat=places)
        motions = [motion_by_places(list(cut), foot) for cut in radii]
        least = sum(wished)
        for plan, number, lever in every_plan_by_itself(foot, cams, wished):
            for motion in motions:
                lacking = [wished[at] - lever[at] - motion[at] for at in range(places)]
                if min(lacking) >= 0:
                    least = min(least, sum(lacking))
        return least

    def test_no_plan_and_no_cut_cam_leaves_less(self):
        chance = random.Random(64)
        for places in (2, 3, 4):
            for length in range(1, 5):
                for cams in (0, 1):
                    foot = [0] + [chance.randint(0, 3) for aside in range(1, length)]
                    radii = [[chance.randint(0, 3) for place in range(places)] for number in range(cams)]
                    wished = [chance.randint(0, 5) for place in range(places)]
                    with self.subTest(foot=foot, radii=radii, wished=wished):
                        self.assertEqual(ask_box(foot, radii, wished, best())[0][0],
                                         self.least_by_all_cams(foot, radii, wished))


if __name__ == "__main__":
    unittest.main()
