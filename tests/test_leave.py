import unittest

from lines import (
    BONE,
    CORE,
    FREES,
    HOLLOW_TETRAHEDRON,
    HOLLOW_TRIANGLE,
    LARGEST,
    LEANING,
    LISTED,
    ask,
    last,
    leave,
    push,
    shape,
    told,
)


class Ordinary(unittest.TestCase):
    def test_the_end_of_a_path(self):
        self.assertEqual(
            ask(shape([[0, 1], [1, 2]]), leave(0), LISTED, leave(1), LISTED),
            [[5], [3], told([[1], [2], [1, 2]]), [1], told([[2]])],
        )

    def test_all_simplices_with_the_corner_go(self):
        self.assertEqual(
            ask(shape([[0, 1, 2, 3], [3, 4]]), leave(1), LISTED),
            [[17], [9], told([[0], [2], [3], [4], [0, 2], [0, 3], [2, 3], [3, 4], [0, 2, 3]])],
        )
        # Corner 0 goes with its three tops and their faces at it.
        self.assertEqual(
            ask(shape([[0, 1, 4], [0, 2, 4], [0, 3, 4], [1, 5]]), leave(0), LISTED),
            [[17], [9], told([[1], [2], [3], [4], [5], [1, 4], [1, 5], [2, 4], [3, 4]])],
        )

    def test_what_is_joined_to_the_corner_stays(self):
        self.assertEqual(
            ask(shape(HOLLOW_TRIANGLE + [[2, 4]]), leave(4), LISTED),
            [[8], [6], told([[0], [1], [2], [0, 1], [0, 2], [1, 2]])],
        )

    def test_one_behind_another(self):
        self.assertEqual(
            ask(shape([[0, 1, 2, 3]]), leave(2), LEANING, leave(0), FREES, leave(3), BONE, leave(1)),
            [[15], [7], [3, 0, 1, 1, 0, 3, 0], [3], [2, 1, 1, 1, 3, 1, 3, 1, 3], [1], [1, 1, 1, 1], [-6]],
        )

    def test_a_push_makes_a_corner_lean_no_more(self):
        # 0 leaned on 1 and 2; now it is in two sides, and no other corner is in both.
        self.assertEqual(
            ask(shape([[0, 1, 2]]), push(1, 2), leave(0), leave(1), leave(0), LISTED),
            [[7], [5], [-6], [3], [1], told([[2]])],
        )


class Edges(unittest.TestCase):
    def test_two_that_lean_on_one_another(self):
        self.assertEqual(ask(shape([[4, 7]]), leave(4), LISTED), [[3], [1], told([[7]])])
        self.assertEqual(ask(shape([[4, 7]]), leave(7), LISTED), [[3], [1], told([[4]])])

    def test_corners_0_and_9(self):
        self.assertEqual(ask(shape([[0, 9]]), leave(0), LISTED), [[3], [1], told([[9]])])
        self.assertEqual(ask(shape([[0, 9]]), leave(9), LISTED), [[3], [1], told([[0]])])

    def test_a_corner_that_leans_on_a_higher_one_alone(self):
        self.assertEqual(ask(shape([[0, 9], [8, 9]]), leave(0), LISTED), [[5], [3], told([[8], [9], [8, 9]])])

    def test_three_that_lean_on_one_that_does_not(self):
        self.assertEqual(
            ask(shape([[0, 1, 3], [0, 2, 3], [1, 2, 3]]), leave(3), leave(1), LISTED),
            [[13], [-6], [7], told([[0], [2], [3], [0, 2], [0, 3], [2, 3], [0, 2, 3]])],
        )


class Refused(unittest.TestCase):
    def test_not_there(self):
        for corner in (0, 3, 9, 10, 11, 4294967294, LARGEST):
            with self.subTest(corner=corner):
                self.assertEqual(last(leave(corner)), [-3])
                self.assertEqual(last(shape([]), leave(corner)), [-3])
                self.assertEqual(last(shape([[1, 2, 4]]), leave(corner)), [-3])

    def test_gone_is_not_there(self):
        self.assertEqual(ask(shape([[0, 1, 2]]), leave(1), leave(1)), [[7], [3], [-3]])
        self.assertEqual(ask(shape([[0, 1]]), push(1), leave(1), leave(0)), [[3], [1], [-3], [-6]])

    def test_a_lone_corner_does_not_lean(self):
        self.assertEqual(last(shape([[5]]), leave(5)), [-6])
        self.assertEqual(last(shape([[0], [5], [9]]), leave(5)), [-6])
        self.assertEqual(last(shape([[0, 1], [5]]), leave(5)), [-6])

    def test_a_corner_that_does_not_lean(self):
        self.assertEqual(last(shape([[0, 1], [1, 2]]), leave(1)), [-6])
        self.assertEqual(last(shape(HOLLOW_TRIANGLE), leave(0)), [-6])
        self.assertEqual(last(shape(HOLLOW_TETRAHEDRON), leave(3)), [-6])
        # The sides 1 0 and 1 2 are there, and 0 2; but they are filled in no triangle.
        self.assertEqual(last(shape(HOLLOW_TRIANGLE + [[0, 2, 3]]), leave(1)), [-6])

    def test_all_is_as_it_was(self):
        before = [shape([[0, 1, 2], [2, 3], [5]]), leave(3)]
        after = [LISTED, FREES, CORE, LEANING, BONE]
        expected = ask(*before, *after)
        for corner, number in [(3, -3), (4, -3), (10, -3), (LARGEST, -3), (5, -6)]:
            with self.subTest(corner=corner):
                self.assertEqual(ask(*before, leave(corner), *after), expected[:2] + [[number]] + expected[2:])


if __name__ == "__main__":
    unittest.main()
