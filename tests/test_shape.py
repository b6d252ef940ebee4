import unittest

from lines import CORE, FORTY_NINE, FREES, LARGEST, LEANING, SIXTY, SIXTY_ONE, ask, last, shape

EDGE = shape([[3, 7]])
EDGE_FREES = [2, 1, 3, 3, 7, 1, 7, 3, 7]


class Ordinary(unittest.TestCase):
    def test_faces_are_counted(self):
        self.assertEqual(last(shape([[5]])), [1])
        self.assertEqual(last(shape([[5, 2]])), [3])
        self.assertEqual(last(shape([[5, 2, 8]])), [7])
        self.assertEqual(last(shape([[5, 2, 8, 0]])), [15])

    def test_faces_that_are_shared_count_once(self):
        self.assertEqual(last(shape([[0, 1, 2], [1, 2, 3]])), [11])
        self.assertEqual(last(shape([[0, 1, 2, 3], [1, 2, 3, 4]])), [23])

    def test_a_simplex_may_be_told_beside_its_faces(self):
        self.assertEqual(last(shape([[1], [0, 1], [0, 1, 2], [2]])), [7])

    def test_a_second_shape_takes_the_place_of_the_first(self):
        self.assertEqual(ask(shape([[0, 1, 2]]), shape([[5]]), CORE), [[7], [1], [0, 1, 1, 5]])
        self.assertEqual(ask(shape([[0, 1, 2]]), shape([]), CORE), [[7], [0], [0, 0]])


class Edges(unittest.TestCase):
    def test_no_simplices(self):
        self.assertEqual(ask(shape([]), FREES, CORE, LEANING), [[0], [0], [0, 0], [0]])

    def test_corners_0_and_9(self):
        self.assertEqual(ask(shape([[9, 0]]), FREES), [[3], [2, 1, 0, 0, 9, 1, 9, 0, 9]])

    def test_corners_in_whatever_order(self):
        for corners in ([1, 2, 5], [2, 1, 5], [5, 2, 1], [5, 1, 2], [2, 5, 1], [1, 5, 2]):
            self.assertEqual(ask(shape([corners]), CORE), [[7], [3, 1, 1, 5]])

    def test_the_same_simplex_twice(self):
        self.assertEqual(last(shape([[0, 1], [0, 1]])), [3])
        self.assertEqual(last(shape([[0, 1, 4], [4, 0, 1]])), [7])
        self.assertEqual(last(shape([[0, 1, 2, 3]] * 80)), [15])

    def test_sixty_simplices_fit(self):
        self.assertEqual(last(shape(FORTY_NINE)), [49])
        self.assertEqual(last(shape(SIXTY)), [60])
        self.assertEqual(last(shape(SIXTY + SIXTY)), [60])

    def test_more_than_sixty_are_refused(self):
        self.assertEqual(last(shape(SIXTY_ONE)), [-2])
        self.assertEqual(last(shape([[a, b, c, 9] for a in range(3) for b in range(3, 6) for c in range(6, 9)])), [-2])


class Refused(unittest.TestCase):
    wrong = [
        [],
        [0, 1, 2, 3, 4],
        [0, 1, 2, 3, 4, 5, 6, 7],
        [0, 0],
        [1, 2, 1],
        [3, 1, 2, 3],
        [4, 4, 4, 4, 4],
        [-1],
        [10],
        [0, -1],
        [0, 1, 2, 10],
        [LARGEST],
        [-LARGEST],
        [0, LARGEST],
        [-LARGEST, LARGEST],
    ]

    def test_what_is_no_simplex(self):
        for corners in self.wrong:
            with self.subTest(corners=corners):
                self.assertEqual(last(shape([corners])), [-1])

    def test_wherever_it_stands_among_others(self):
        for corners in self.wrong:
            with self.subTest(corners=corners):
                self.assertEqual(last(shape([corners, [0, 1], [2]])), [-1])
                self.assertEqual(last(shape([[0, 1], corners, [2]])), [-1])
                self.assertEqual(last(shape([[0, 1], [2], corners])), [-1])

    def test_of_two_reasons_the_one_told_first(self):
        for corners in self.wrong:
            with self.subTest(corners=corners):
                self.assertEqual(last(shape(SIXTY_ONE + [corners])), [-1])
                self.assertEqual(last(shape([corners] + SIXTY_ONE)), [-1])

    def test_all_is_as_it_was(self):
        for refused, number in [([[0], []], -1), ([[0, 0]], -1), (SIXTY_ONE, -2), (SIXTY_ONE + [[10]], -1)]:
            with self.subTest(refused=refused):
                self.assertEqual(
                    ask(EDGE, shape(refused), FREES, CORE, LEANING),
                    [[3], [number], EDGE_FREES, [1, 1, 1, 7], [2, 3, 7, 7, 3]],
                )
                self.assertEqual(ask(shape(refused), FREES, CORE), [[number], [0], [0, 0]])


if __name__ == "__main__":
    unittest.main()
