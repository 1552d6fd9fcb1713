import unittest

from line_helper import GREATEST, ask, begins, cam, moves


class CamAccepted(unittest.TestCase):
    def test_numbers_0_to_3_in_order(self):
        given = ask(cam([1, 2]), cam([3, 4]), cam([5, 6]), cam([7, 8]), moves(0), moves(1), moves(2), moves(3))
        self.assertEqual(given, [[0], [1], [2], [3], [2, 1, 2], [4, 3, 4], [6, 5, 6], [8, 7, 8]])

    def test_radii_of_0_and_100(self):
        given = ask(cam([0, 0]), cam([100, 100]), cam([0, 100]), moves(0), moves(1), moves(2))
        self.assertEqual(given, [[0], [1], [2], [0, 0, 0], [100, 100, 100], [100, 0, 100]])

    def test_the_same_radii_twice_are_two_cams(self):
        self.assertEqual(ask(cam([1, 2]), cam([1, 2])), [[0], [1]])


class CamRefused(unittest.TestCase):
    def test_too_few_and_too_many_radii(self):
        for places in range(2, 9):
            for length in range(13):
                if length != places:
                    with self.subTest(places=places, length=length):
                        self.assertEqual(ask(begins(places, [0]), cam([1] * length)), [[0], [-1]])

    def test_a_radius_above_100_at_any_place(self):
        for place in range(8):
            for radius in (101, 400, GREATEST):
                radii = [100] * 8
                radii[place] = radius
                with self.subTest(radii=radii):
                    self.assertEqual(ask(begins(8, [0]), cam(radii)), [[0], [-1]])

    def test_a_fifth_cam(self):
        four = [cam([number, 0]) for number in range(1, 5)]
        given = ask(*four, cam([9, 9]), cam([9, 9]), moves(3), moves(4))
        self.assertEqual(given, [[0], [1], [2], [3], [-5], [-5], [4, 4, 0], [-2]])

    def test_a_fifth_cam_with_wrong_radii_is_refused_for_them(self):
        four = [cam([1, 1])] * 4
        for radii in ([], [1], [1, 1, 1], [101, 0], [0, GREATEST]):
            with self.subTest(radii=radii):
                self.assertEqual(ask(*four, cam(radii))[4:], [[-1]])

    def test_a_refused_cam_takes_no_number(self):
        given = ask(cam([101, 0]), moves(0), cam([1, 2]), cam([1]), moves(1), cam([3, 4]), moves(1))
        self.assertEqual(given, [[-1], [-2], [0], [-1], [-2], [1], [4, 3, 4]])


if __name__ == "__main__":
    unittest.main()
