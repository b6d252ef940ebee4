import unittest

from lines import LISTED, SIXTY, UNDO, ask, last, leave, push, shape, told


def listed(simplices):
    return last(shape(simplices), LISTED)


class Ordinary(unittest.TestCase):
    def test_one_to_four_corners(self):
        self.assertEqual(
            listed([[3, 2, 1, 0]]),
            [15, 1, 0, 1, 1, 1, 2, 1, 3, 2, 0, 1, 2, 0, 2, 2, 0, 3, 2, 1, 2, 2, 1, 3, 2, 2, 3,
             3, 0, 1, 2, 3, 0, 1, 3, 3, 0, 2, 3, 3, 1, 2, 3, 4, 0, 1, 2, 3],
        )

    def test_behind_pushes_leaves_and_undos(self):
        self.assertEqual(
            ask(shape([[0, 1, 2]]), push(0, 2), LISTED, leave(0), LISTED, UNDO, LISTED),
            [[7], [5], told([[0], [1], [2], [0, 1], [1, 2]]), [3], told([[1], [2], [1, 2]]), [5],
             told([[0], [1], [2], [0, 1], [1, 2]])],
        )


class Edges(unittest.TestCase):
    def test_the_empty_shape(self):
        self.assertEqual(ask(LISTED), [[0]])
        self.assertEqual(listed([]), [0])

    def test_one_corner(self):
        self.assertEqual(listed([[9]]), [1, 1, 9])

    def test_the_order_does_not_come_from_how_they_are_told(self):
        for simplices in ([[9, 1], [5], [8, 0]], [[5], [0, 8], [1, 9]], [[0, 8], [1, 9], [5], [9], [0]]):
            self.assertEqual(listed(simplices), told([[0], [1], [5], [8], [9], [0, 8], [1, 9]]))

    def test_the_first_place_that_differs_tells(self):
        # 0 9 stands before 1 2, and 0 3 9 before 0 4 5.
        self.assertEqual(
            listed([[1, 2], [4, 5, 0], [9, 3, 0]]),
            told([[0], [1], [2], [3], [4], [5], [9], [0, 3], [0, 4], [0, 5], [0, 9], [1, 2], [3, 9], [4, 5],
                  [0, 3, 9], [0, 4, 5]]),
        )

    def test_sixty(self):
        given = listed(SIXTY)
        self.assertEqual(given[0], 60)
        # 10 corners, 40 sides, the 8 triangles of two tetrahedra, and these two.
        self.assertEqual(len(given), 1 + 10 * 2 + 40 * 3 + 8 * 4 + 2 * 5)

    def test_nothing_changes(self):
        self.assertEqual(ask(shape([[0]]), LISTED, LISTED, UNDO), [[1], [1, 1, 0], [1, 1, 0], [-7]])


if __name__ == "__main__":
    unittest.main()
