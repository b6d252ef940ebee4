import unittest

from lines import (
    CORE,
    FREES,
    HOLLOW_TETRAHEDRON,
    HOLLOW_TRIANGLE,
    LARGEST,
    LEANING,
    SIXTY_ONE,
    ask,
    last,
    push,
    shape,
)


class Ordinary(unittest.TestCase):
    def test_both_go(self):
        self.assertEqual(ask(shape([[0, 1]]), push(0), FREES, CORE), [[3], [1], [0], [0, 1, 1, 1]])
        self.assertEqual(ask(shape([[0, 1]]), push(1), FREES, CORE), [[3], [1], [0], [0, 1, 1, 0]])

    def test_one_behind_another(self):
        self.assertEqual(
            ask(shape([[0, 1, 2]]), push(1, 2), push(2), push(1), CORE), [[7], [5], [3], [1], [0, 1, 1, 0]]
        )

    def test_a_triangle_into_a_tetrahedron(self):
        self.assertEqual(
            ask(shape([[0, 1, 2, 3]]), push(1, 2, 3), LEANING),
            [[15], [13], [3, 1, 0, 2, 0, 3, 0]],
        )

    def test_a_tetrahedron_down_to_a_corner(self):
        calls = [push(1, 2, 3), push(1, 2), push(1, 3), push(2, 3), push(1), push(2), push(3)]
        self.assertEqual(ask(shape([[0, 1, 2, 3]]), *calls), [[15], [13], [11], [9], [7], [5], [3], [1]])


class Edges(unittest.TestCase):
    def test_corners_in_whatever_order(self):
        for corners in ([1, 4, 8], [8, 4, 1], [4, 8, 1]):
            self.assertEqual(ask(shape([[0, 1, 4, 8]]), push(*corners)), [[15], [13]])

    def test_corners_0_and_9(self):
        self.assertEqual(ask(shape([[0, 9]]), push(9)), [[3], [1]])
        self.assertEqual(ask(shape([[0, 9]]), push(0)), [[3], [1]])

    def test_a_shape_behind_pushes_is_whole_again(self):
        self.assertEqual(ask(shape([[0, 1]]), push(0), shape([[0, 1]]), push(0)), [[3], [1], [3], [1]])


class Refused(unittest.TestCase):
    no_simplices = [
        [],
        [0, 1, 2, 3, 4],
        [0, 1, 2, 3, 4, 5, 6, 7],
        [0, 0],
        [0, 1, 0],
        [1, 1, 1, 1, 1],
        [-1],
        [10],
        [0, -1],
        [0, 10],
        [LARGEST],
        [-LARGEST],
        [1, -LARGEST, LARGEST],
    ]

    def test_no_simplex(self):
        for corners in self.no_simplices:
            with self.subTest(corners=corners):
                self.assertEqual(last(push(*corners)), [-1])
                self.assertEqual(last(shape([[0, 1, 2]]), push(*corners)), [-1])

    def test_not_there(self):
        self.assertEqual(last(push(0)), [-3])
        self.assertEqual(last(push(1, 2, 3, 4)), [-3])
        self.assertEqual(last(shape([]), push(9)), [-3])
        self.assertEqual(last(shape([[0, 1], [1, 2]]), push(0, 2)), [-3])
        self.assertEqual(last(shape(HOLLOW_TRIANGLE), push(2, 1, 0)), [-3])
        self.assertEqual(last(shape([[0, 1, 2]]), push(3)), [-3])

    def test_gone_is_not_there(self):
        self.assertEqual(
            ask(shape([[0, 1, 2]]), push(0, 1), push(0, 1), push(0, 1, 2), push(1, 0)),
            [[7], [5], [-3], [-3], [-3]],
        )

    def test_not_free_as_it_is_a_top(self):
        self.assertEqual(last(shape([[4]]), push(4)), [-6])
        self.assertEqual(last(shape([[4, 5]]), push(4, 5)), [-6])
        self.assertEqual(last(shape([[4, 5, 6, 7]]), push(4, 5, 6, 7)), [-6])
        self.assertEqual(last(shape(HOLLOW_TETRAHEDRON), push(0, 1, 2)), [-6])

    def test_not_free_as_it_is_a_face_of_several(self):
        self.assertEqual(last(shape([[0, 1], [1, 2]]), push(1)), [-6])
        self.assertEqual(last(shape([[0, 1, 2]]), push(0)), [-6])
        self.assertEqual(last(shape([[0, 1, 2], [1, 2, 3]]), push(2, 1)), [-6])
        self.assertEqual(last(shape([[0, 1, 2, 3]]), push(0, 1)), [-6])

    def test_all_is_as_it_was(self):
        before = [shape([[0, 1, 2], [2, 3]]), push(0, 1)]
        after = [FREES, CORE, LEANING]
        expected = ask(*before, *after)
        for refused, number in [((), -1), ((0, 0), -1), ((10,), -1), ((0, 1), -3), ((7,), -3), ((2,), -6), ((3, 2), -6)]:
            with self.subTest(refused=refused):
                self.assertEqual(ask(*before, push(*refused), *after), expected[:2] + [[number]] + expected[2:])

    def test_a_push_behind_a_refused_shape(self):
        self.assertEqual(
            ask(shape([[0, 1]]), shape(SIXTY_ONE), shape([[1, 1]]), push(1), push(0)),
            [[3], [-2], [-1], [1], [-6]],
        )


if __name__ == "__main__":
    unittest.main()
