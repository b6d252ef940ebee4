import unittest

from lines import BONE, HOLLOW_TETRAHEDRON, HOLLOW_TRIANGLE, LISTED, UNDO, ask, last, leave, push, shape, told


def bone(simplices):
    return last(shape(simplices), BONE)


class Ordinary(unittest.TestCase):
    def test_what_hangs_on_a_hole_goes(self):
        self.assertEqual(bone(HOLLOW_TRIANGLE + [[2, 4], [4, 5]]), [3] + told(HOLLOW_TRIANGLE))

    def test_the_bone_is_one_corner(self):
        # The lowest that leans goes each time.
        self.assertEqual(bone([[0, 1]]), [1, 1, 1, 1])
        self.assertEqual(bone([[0, 1, 2]]), [1, 1, 1, 2])
        self.assertEqual(bone([[0, 1, 2, 3]]), [1, 1, 1, 3])
        self.assertEqual(bone([[0, 1], [1, 2], [2, 3]]), [1, 1, 1, 3])
        self.assertEqual(bone([[0, 1], [0, 2], [0, 3]]), [1, 1, 1, 3])
        self.assertEqual(bone([[0, 9], [1, 9], [2, 9]]), [1, 1, 1, 9])
        self.assertEqual(bone([[0, 1, 2], [0, 1, 3], [0, 2, 3]]), [1, 1, 1, 3])

    def test_the_lowest_goes_not_the_one_it_leans_on(self):
        # A corner that hangs on 3 goes, be it lower or higher; 3 stays.
        ring = [[1, 3], [1, 4], [2, 3], [2, 4]]
        self.assertEqual(bone(ring + [[0, 3]]), [4] + told(ring))
        self.assertEqual(bone(ring + [[3, 9]]), [4] + told(ring))
        # 0 and 1 lean on one another, and a circle goes through both: 1 is left.
        self.assertEqual(
            bone([[0, 1, 2], [0, 1, 4], [2, 3], [3, 4]]), [4] + told([[1, 2], [1, 4], [2, 3], [3, 4]])
        )

    def test_several_parts(self):
        self.assertEqual(bone([[0, 1], [2, 3], [4]]), [3] + told([[1], [3], [4]]))


class Edges(unittest.TestCase):
    def test_the_empty_shape(self):
        self.assertEqual(ask(BONE), [[0, 0]])
        self.assertEqual(bone([]), [0, 0])

    def test_one_corner_alone(self):
        self.assertEqual(bone([[0]]), [1, 1, 1, 0])
        self.assertEqual(bone([[9]]), [1, 1, 1, 9])

    def test_no_corner_leans(self):
        self.assertEqual(bone(HOLLOW_TRIANGLE), [3] + told(HOLLOW_TRIANGLE))
        self.assertEqual(bone(HOLLOW_TETRAHEDRON), [4] + told(HOLLOW_TETRAHEDRON))
        self.assertEqual(bone([[3], [8]]), [2] + told([[3], [8]]))

    def test_free_simplices_stay_if_no_corner_leans(self):
        # A ring of filled triangles around a hole: its outer and inner sides are free, but no corner leans.
        band = [[k, (k + 1) % 8, (k + 2) % 8] for k in range(8)]
        tops = sorted(sorted(corners) for corners in band)
        self.assertEqual(last(shape(band)), [32])
        self.assertEqual(bone(band), [8] + told(tops))

    def test_tops_are_in_order(self):
        self.assertEqual(
            bone(HOLLOW_TETRAHEDRON + [[8, 9], [7, 8], [7, 9], [6]]),
            [8] + told([[6], [7, 8], [7, 9], [8, 9]] + HOLLOW_TETRAHEDRON),
        )

    def test_nothing_changes(self):
        whole = told([[0], [1], [2], [0, 1], [0, 2], [1, 2], [0, 1, 2]])
        self.assertEqual(
            ask(shape([[0, 1, 2]]), BONE, LISTED, BONE, LISTED), [[7], [1, 1, 1, 2], whole, [1, 1, 1, 2], whole]
        )

    def test_it_is_nothing_to_undo(self):
        self.assertEqual(ask(shape([[0, 1]]), BONE, UNDO), [[3], [1, 1, 1, 1], [-7]])
        self.assertEqual(ask(shape([[0, 1], [1, 2]]), leave(0), BONE, UNDO, UNDO), [[5], [3], [1, 1, 1, 2], [5], [-7]])

    def test_among_pushes_and_leaves(self):
        self.assertEqual(
            ask(shape([[0, 1, 2]]), push(1, 2), BONE, leave(2), BONE, leave(1), BONE),
            [[7], [5], [1, 1, 1, 2], [3], [1, 1, 1, 1], [1], [1, 1, 1, 0]],
        )


if __name__ == "__main__":
    unittest.main()
