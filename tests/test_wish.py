import unittest

from line_helper import GREATEST, ask, begins, best, cam, moves, sums, wish


class Wish(unittest.TestCase):
    def test_is_answered_with_0(self):
        for places in range(2, 9):
            for height in (0, 1, 100, 101, 400):
                with self.subTest(places=places, height=height):
                    self.assertEqual(ask(begins(places, [0]), wish([height] * places)), [[0], [0]])

    def test_may_be_told_again(self):
        self.assertEqual(ask(wish([1, 2]), wish([3, 4]), wish([0, 0])), [[0], [0], [0]])

    def test_too_few_and_too_many_heights(self):
        for places in range(2, 9):
            for length in range(13):
                if length != places:
                    with self.subTest(places=places, length=length):
                        self.assertEqual(ask(begins(places, [0]), wish([1] * length)), [[0], [-1]])

    def test_a_height_above_400_at_any_place(self):
        for place in range(8):
            for height in (401, GREATEST):
                heights = [400] * 8
                heights[place] = height
                with self.subTest(heights=heights):
                    self.assertEqual(ask(begins(8, [0]), wish(heights)), [[0], [-1]])

    def test_leaves_the_cams_as_they_are(self):
        given = ask(cam([5, 6]), wish([400, 1]), moves(0), wish([401, 1]), moves(0), cam([1, 1]))
        self.assertEqual(given, [[0], [0], [6, 5, 6], [-1], [6, 5, 6], [1]])

    # By a point and without cams the cam that's cut is the wish itself.
    def test_0_is_wished_at_the_beginning(self):
        self.assertEqual(ask(best()), [[0, 0, 1, 0, 0]])

    def test_the_last_wish_that_was_not_refused_holds(self):
        calls = []
        expected = []
        for heights, answer, wished in (
            ([3, 400], [0], [3, 400]),
            ([401, 0], [-1], [3, 400]),
            ([1, 2, 3], [-1], [3, 400]),
            ([], [-1], [3, 400]),
            ([7, 8], [0], [7, 8]),
        ):
            calls = calls + [wish(heights), best(), sums([])]
            expected = expected + [answer, [0, 0, 1] + wished, [sum(wished), max(wished), 0, 0]]
        self.assertEqual(ask(*calls), expected)


if __name__ == "__main__":
    unittest.main()
