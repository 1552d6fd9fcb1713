import unittest

from line_helper import GREATEST, ask, begins, best, cam, moves, sums, wish

WRONG_BEGINNINGS = [
    (0, [0]),
    (1, [0]),
    (9, [0]),
    (GREATEST, [0]),
    (3, []),
    (3, [1]),
    (3, [100]),
    (3, [GREATEST]),
    (3, [1, 0]),
    (3, [5, 0, 0, 0]),
    (3, [0, 101]),
    (3, [0, 0, 101]),
    (3, [0, 0, 0, 101]),
    (3, [0, 101, 0, 0]),
    (3, [0, GREATEST]),
    (3, [0, 0, 0, 0, 0]),
    (3, [0, 1, 2, 3, 4, 5]),
    (9, [1]),
    (0, []),
]


class BeginsAccepted(unittest.TestCase):
    def test_every_number_of_places_from_2_to_8(self):
        for places in range(2, 9):
            with self.subTest(places=places):
                given = ask(begins(places, [0]), cam([7] * places), wish([9] * places), moves(0))
                self.assertEqual(given, [[0], [0], [0], [7] + [7] * places])

    def test_a_foot_of_1_to_4_numbers(self):
        for foot in ([0], [0, 1], [0, 1, 2], [0, 1, 2, 3]):
            with self.subTest(foot=foot):
                self.assertEqual(ask(begins(3, foot)), [[0]])

    def test_foot_numbers_of_100(self):
        for foot in ([0, 100], [0, 0, 100], [0, 0, 0, 100], [0, 100, 100, 100]):
            with self.subTest(foot=foot):
                self.assertEqual(ask(begins(8, foot)), [[0]])

    def test_a_foot_may_fall_or_stay_level(self):
        for foot in ([0, 0, 0, 0], [0, 9, 3, 0]):
            with self.subTest(foot=foot):
                self.assertEqual(ask(begins(5, foot)), [[0]])

    def test_takes_all_cams_away(self):
        given = ask(cam([1, 2]), cam([3, 4]), begins(2, [0]), moves(0), moves(1), cam([5, 6]), moves(0))
        self.assertEqual(given, [[0], [1], [0], [-2], [-2], [0], [6, 5, 6]])

    def test_makes_room_for_four_cams_again(self):
        four = [cam([1, 1])] * 4
        given = ask(*four, cam([1, 1]), begins(2, [0]), *four, cam([1, 1]))
        self.assertEqual(given, [[0], [1], [2], [3], [-5], [0], [0], [1], [2], [3], [-5]])

    def test_the_new_places_and_foot_hold(self):
        given = ask(begins(4, [0, 2]), cam([9, 0, 0, 0]), moves(0), cam([1, 1]), wish([1, 1]), wish([1, 1, 1, 1]))
        self.assertEqual(given, [[0], [0], [9, 9, 7, 0, 7], [-1], [-1], [0]])

    def test_wishes_0_at_each_place(self):
        given = ask(wish([5, 6]), begins(2, [0]), sums([]), best(), wish([5, 6]), begins(8, [0, 1]), sums([]), best())
        self.assertEqual(given, [
            [0], [0], [0, 0, 0, 0], [0, 0, 1, 0, 0],
            [0], [0], [0, 0] + [0] * 8, [0, 0, 1] + [0] * 8,
        ])


class BeginsRefused(unittest.TestCase):
    def test_refusals(self):
        for places, foot in WRONG_BEGINNINGS:
            with self.subTest(places=places, foot=foot):
                self.assertEqual(ask(begins(places, foot)), [[-1]])

    def test_cams_foot_and_places_stay(self):
        for places, foot in WRONG_BEGINNINGS:
            with self.subTest(places=places, foot=foot):
                given = ask(
                    begins(5, [0, 3]), cam([20, 0, 0, 0, 8]), begins(places, foot),
                    moves(0), cam([1, 1, 1, 1, 9]), moves(1), wish([1, 2, 3, 4, 5]), cam([1, 1, 1]),
                )
                self.assertEqual(given, [
                    [0], [0], [-1],
                    [20, 20, 17, 0, 5, 17], [1], [9, 6, 1, 1, 6, 9], [0], [-1],
                ])

    def test_the_wish_stays(self):
        for places, foot in WRONG_BEGINNINGS:
            with self.subTest(places=places, foot=foot):
                given = ask(begins(3, [0, 1]), wish([4, 5, 6]), begins(places, foot), sums([]), best())
                self.assertEqual(given, [[0], [0], [-1], [15, 6, 0, 0, 0], [1, 0, 1, 4, 5, 5]])

    def test_the_beginning_of_a_line_stays(self):
        given = ask(begins(9, [0]), moves(0), cam([3, 1]), moves(0), wish([4, 4]))
        self.assertEqual(given, [[-1], [-2], [0], [3, 3, 1], [0]])


if __name__ == "__main__":
    unittest.main()
