import random
import unittest

from line_helper import GREATEST, ask, begins, cam, motion_by_places, moves

# foot, radii, motion
MOTIONS = [
    ([0], [3, 9], [3, 9]),
    ([0], [0, 0], [0, 0]),
    ([0], [8, 7, 6, 5, 4, 3, 2, 1], [8, 7, 6, 5, 4, 3, 2, 1]),
    ([0, 4], [3, 9], [5, 9]),
    ([0, 4], [3, 3], [3, 3]),
    ([0, 0], [3, 9], [9, 9]),
    ([0, 2], [9, 0, 0], [9, 7, 7]),
    ([0, 2], [9, 0, 0, 0], [9, 7, 0, 7]),
    ([0, 2], [0, 0, 0, 9], [7, 0, 7, 9]),
    ([0, 1, 4], [10, 0, 0, 0, 0, 0], [10, 9, 6, 0, 6, 9]),
    ([0, 1, 4, 9], [10, 0, 0, 0, 0, 0, 0, 0], [10, 9, 6, 1, 0, 1, 6, 9]),
    ([0, 1, 4, 9], [0, 0, 0, 0, 0, 0, 10, 0], [6, 1, 0, 1, 6, 9, 10, 9]),
    ([0, 1, 4, 9], [12, 0, 0, 7, 0, 0, 0, 11], [12, 11, 8, 7, 6, 7, 10, 11]),
    # Three aside on a ring of two or three places is a place that is nearer, too.
    ([0, 50, 60, 3], [20, 9], [20, 17]),
    ([0, 50, 3], [20, 9, 0], [20, 17, 17]),
    ([0, 9, 9, 0], [5, 8, 2], [5, 8, 2]),
    ([0, 90, 90, 1], [50, 0, 0, 0], [50, 49, 0, 49]),
    ([0, 90, 2, 90], [50, 0, 0, 0], [50, 0, 48, 0]),
    ([0, 90, 90, 2], [50, 0, 0, 0, 0], [50, 0, 48, 48, 0]),
    ([0, 90, 90, 2], [50, 0, 0, 0, 0, 0], [50, 0, 0, 48, 0, 0]),
    # A foot that is higher than the radii lifts nothing aside.
    ([0, 100, 100, 100], [99, 0, 50, 0], [99, 0, 50, 0]),
    ([0, 100], [100, 0], [100, 0]),
    ([0, 99], [100, 0], [100, 1]),
    ([0, 5], [4, 0, 0, 4], [4, 0, 0, 4]),
    ([0, 100, 100, 100], [0, 0, 0, 0, 0, 0, 0, 0], [0, 0, 0, 0, 0, 0, 0, 0]),
]


class MovesRefused(unittest.TestCase):
    def test_at_the_beginning_of_a_line(self):
        for number in (0, 1, 2, 3, 4, GREATEST):
            with self.subTest(number=number):
                self.assertEqual(ask(moves(number)), [[-2]])

    def test_a_number_above_the_last(self):
        for cams in range(1, 5):
            for number in (cams, cams + 1, 100, 2147483648, GREATEST):
                with self.subTest(cams=cams, number=number):
                    given = ask(*[cam([1, 2])] * cams, moves(cams - 1), moves(number))
                    self.assertEqual(given[cams:], [[2, 1, 2], [-2]])

    def test_changes_nothing(self):
        given = ask(begins(3, [0, 1]), cam([4, 0, 0]), moves(1), moves(0), cam([0, 4, 0]), moves(1))
        self.assertEqual(given, [[0], [0], [-2], [4, 4, 3, 3], [1], [4, 3, 4, 3]])


class Motion(unittest.TestCase):
    def test_motions(self):
        for foot, radii, motion in MOTIONS:
            with self.subTest(foot=foot, radii=radii):
                given = ask(begins(len(radii), foot), cam(radii), moves(0))
                self.assertEqual(given, [[0], [0], [max(motion)] + motion])

    def test_the_foot_is_a_point_at_the_beginning_of_a_line(self):
        self.assertEqual(ask(cam([100, 0]), moves(0)), [[0], [100, 100, 0]])

    def test_every_cam_has_its_own_motion(self):
        given = ask(begins(3, [0, 2]), cam([9, 0, 0]), cam([0, 9, 0]), moves(1), moves(0), moves(1))
        self.assertEqual(given, [[0], [0], [1], [9, 7, 9, 7], [9, 9, 7, 7], [9, 7, 9, 7]])

    def test_each_number_of_places_and_each_length_of_foot(self):
        chance = random.Random(20)
        for places in range(2, 9):
            for length in range(1, 5):
                for highest in (3, 30, 100) * 10:
                    foot = [0] + [chance.randint(0, highest) for aside in range(1, length)]
                    radii = [chance.randint(0, 100) for place in range(places)]
                    motion = motion_by_places(radii, foot)
                    with self.subTest(foot=foot, radii=radii):
                        given = ask(begins(places, foot), cam(radii), moves(0))
                        self.assertEqual(given[2], [max(motion)] + motion)

    def test_every_low_cam_of_two_and_three_places(self):
        low = range(4)
        rings = [[a, b] for a in low for b in low] + [[a, b, c] for a in low for b in low for c in low]
        feet = [[0, a, b, c] for a in low for b in low for c in low]
        for radii in rings:
            for foot in feet:
                motion = motion_by_places(radii, foot)
                given = ask(begins(len(radii), foot), cam(radii), moves(0))
                self.assertEqual(given[2], [max(motion)] + motion, (foot, radii))


if __name__ == "__main__":
    unittest.main()
