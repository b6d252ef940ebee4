import unittest

from lines import FREES, HOLLOW_TETRAHEDRON, HOLLOW_TRIANGLE, ask, last, push, shape


def frees(simplices):
    return last(shape(simplices), FREES)


class Ordinary(unittest.TestCase):
    def test_a_path(self):
        self.assertEqual(frees([[0, 1], [1, 2]]), [2, 1, 0, 0, 1, 1, 2, 1, 2])

    def test_a_triangle(self):
        self.assertEqual(frees([[2, 4, 7]]), [3, 2, 2, 4, 2, 4, 7, 2, 2, 7, 2, 4, 7, 2, 4, 7, 2, 4, 7])

    def test_a_tetrahedron(self):
        whole = [1, 2, 3, 4]
        expected = [4]
        for triangle in ([1, 2, 3], [1, 2, 4], [1, 3, 4], [2, 3, 4]):
            expected += [3] + triangle + whole
        self.assertEqual(frees([[4, 3, 2, 1]]), expected)

    def test_a_side_that_two_have_is_not_free(self):
        self.assertEqual(
            frees([[0, 1, 2], [1, 2, 3]]),
            [4, 2, 0, 1, 0, 1, 2, 2, 0, 2, 0, 1, 2, 2, 1, 3, 1, 2, 3, 2, 2, 3, 1, 2, 3],
        )


class Edges(unittest.TestCase):
    def test_fewer_corners_come_first(self):
        # Corner 9 goes into 8 9; the sides of 0 1 2 come behind it though their corners are lower.
        self.assertEqual(
            frees([[0, 1, 2], [2, 8], [8, 9]]),
            [4, 1, 9, 8, 9, 2, 0, 1, 0, 1, 2, 2, 0, 2, 0, 1, 2, 2, 1, 2, 0, 1, 2],
        )

    def test_the_first_place_that_differs_tells(self):
        # 0 9 stands before 1 2: the first corners differ, the second ones don't matter.
        self.assertEqual(
            frees([[0, 3, 9], [1, 2, 4]]),
            [6, 2, 0, 3, 0, 3, 9, 2, 0, 9, 0, 3, 9, 2, 1, 2, 1, 2, 4, 2, 1, 4, 1, 2, 4, 2, 2, 4, 1, 2, 4,
             2, 3, 9, 0, 3, 9],
        )

    def test_none_is_free(self):
        for simplices in ([], [[4]], [[0], [9]], HOLLOW_TRIANGLE, HOLLOW_TETRAHEDRON):
            with self.subTest(simplices=simplices):
                self.assertEqual(frees(simplices), [0])

    def test_ahead_of_any_shape(self):
        self.assertEqual(ask(FREES), [[0]])

    def test_what_is_free_behind_a_push(self):
        self.assertEqual(
            ask(shape([[0, 1, 2]]), push(0, 1), FREES, push(1), FREES),
            [[7], [5], [2, 1, 0, 0, 2, 1, 1, 1, 2], [3], [2, 1, 0, 0, 2, 1, 2, 0, 2]],
        )

    def test_nothing_changes(self):
        self.assertEqual(
            ask(shape([[0, 1]]), FREES, FREES), [[3], [2, 1, 0, 0, 1, 1, 1, 0, 1], [2, 1, 0, 0, 1, 1, 1, 0, 1]]
        )


if __name__ == "__main__":
    unittest.main()
