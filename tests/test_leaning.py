import unittest

from lines import CORE, HOLLOW_TETRAHEDRON, HOLLOW_TRIANGLE, LEANING, ask, last, push, shape


def leaning(simplices):
    return last(shape(simplices), LEANING)


class Ordinary(unittest.TestCase):
    def test_a_path(self):
        self.assertEqual(leaning([[0, 1], [1, 2]]), [2, 0, 1, 2, 1])

    def test_two_triangles_on_one_side(self):
        # 0 and 3 lean on both 1 and 2; 1 and 2 on one another alone.
        self.assertEqual(leaning([[0, 1, 2], [1, 2, 3]]), [4, 0, 1, 1, 2, 2, 1, 3, 1])

    def test_a_corner_with_two_tops(self):
        # 1 is in 0 1 2 and in 1 3: no other corner is in both.
        self.assertEqual(leaning([[0, 1, 2], [1, 3]]), [3, 0, 1, 2, 0, 3, 1])

    def test_what_is_filled_in_part_only(self):
        # 0 is joined to 1 and to 2, which are joined; but the triangle is not filled.
        self.assertEqual(leaning(HOLLOW_TRIANGLE), [0])
        self.assertEqual(leaning(HOLLOW_TETRAHEDRON), [0])
        self.assertEqual(leaning([[0, 1, 2], [0, 1, 3], [0, 2, 3]]), [3, 1, 0, 2, 0, 3, 0])


class Edges(unittest.TestCase):
    def test_two_on_one_another(self):
        self.assertEqual(leaning([[0, 9]]), [2, 0, 9, 9, 0])
        self.assertEqual(leaning([[5, 4]]), [2, 4, 5, 5, 4])

    def test_a_lone_corner_leans_on_none(self):
        self.assertEqual(leaning([[3]]), [0])
        self.assertEqual(leaning([[3], [4]]), [0])
        self.assertEqual(leaning([[3], [4, 5]]), [2, 4, 5, 5, 4])

    def test_the_lowest_is_told(self):
        self.assertEqual(leaning([[2, 5, 7, 9]]), [4, 2, 5, 5, 2, 7, 2, 9, 2])
        self.assertEqual(leaning([[1, 2, 3], [1, 2, 4], [0, 1]]), [4, 0, 1, 2, 1, 3, 1, 4, 1])

    def test_the_empty_shape(self):
        self.assertEqual(ask(LEANING), [[0]])
        self.assertEqual(leaning([]), [0])

    def test_behind_a_push(self):
        self.assertEqual(
            ask(shape([[0, 1, 2]]), push(0, 1), LEANING, push(0), LEANING, push(1), LEANING),
            [[7], [5], [2, 0, 2, 1, 2], [3], [2, 1, 2, 2, 1], [1], [0]],
        )

    def test_nothing_changes(self):
        self.assertEqual(
            ask(shape([[0, 1]]), LEANING, LEANING, CORE), [[3], [2, 0, 1, 1, 0], [2, 0, 1, 1, 0], [1, 1, 1, 1]]
        )


if __name__ == "__main__":
    unittest.main()
