import unittest

from lines import CORE, FREES, HOLLOW_TETRAHEDRON, HOLLOW_TRIANGLE, LEANING, ask, last, push, shape

# No side of it is free, though it has no holes: a triangle whose three sides are one.
DUNCE_HAT = [
    [0, 1, 3], [0, 1, 4], [0, 1, 5], [0, 2, 5], [0, 2, 6], [0, 2, 7], [0, 3, 4], [0, 6, 7], [1, 2, 3],
    [1, 2, 4], [1, 2, 6], [1, 5, 6], [2, 3, 7], [2, 4, 5], [3, 4, 5], [3, 5, 6], [3, 6, 7],
]


def core(simplices):
    return last(shape(simplices), CORE)


def tops(simplices):
    return [number for corners in simplices for number in [len(corners)] + corners]


class Ordinary(unittest.TestCase):
    def test_a_hole_stays(self):
        self.assertEqual(core(HOLLOW_TRIANGLE), [0, 3] + tops([[0, 1], [0, 2], [1, 2]]))
        self.assertEqual(core(HOLLOW_TETRAHEDRON), [0, 4] + tops(HOLLOW_TETRAHEDRON))

    def test_what_hangs_on_a_hole_goes(self):
        # Corner 5 goes into 4 5, then 4 into 2 4, then the side 0 1 into 0 1 3.
        self.assertEqual(
            core(HOLLOW_TRIANGLE + [[2, 4], [4, 5], [0, 1, 3]]), [3, 4] + tops([[0, 2], [0, 3], [1, 2], [1, 3]])
        )

    def test_several_parts(self):
        self.assertEqual(core([[0, 1], [2, 3], [4]]), [2, 3, 1, 1, 1, 3, 1, 4])


class Edges(unittest.TestCase):
    def test_one_corner_alone(self):
        self.assertEqual(core([[6]]), [0, 1, 1, 6])
        self.assertEqual(core([[0, 1]]), [1, 1, 1, 1])
        self.assertEqual(core([[0, 1, 2]]), [3, 1, 1, 2])
        self.assertEqual(core([[0, 1, 2, 3]]), [7, 1, 1, 3])

    def test_the_first_in_order_goes_each_time(self):
        # 0, then 1, then 2 are the free ends one behind another; 3 is never the first.
        self.assertEqual(core([[0, 1], [1, 2], [2, 3]]), [3, 1, 1, 3])
        # 1 goes, then 2, and then 0 is a free end itself.
        self.assertEqual(core([[0, 1], [0, 2], [0, 3]]), [3, 1, 1, 3])
        # With 9 in the middle 0 to 2 go into it.
        self.assertEqual(core([[0, 9], [1, 9], [2, 9]]), [3, 1, 1, 9])

    def test_the_empty_shape(self):
        self.assertEqual(ask(CORE), [[0, 0]])
        self.assertEqual(core([]), [0, 0])

    def test_tops_are_in_order(self):
        self.assertEqual(
            core(HOLLOW_TETRAHEDRON + [[8, 9], [7, 8], [7, 9], [6]]),
            [0, 8] + tops([[6], [7, 8], [7, 9], [8, 9]] + HOLLOW_TETRAHEDRON),
        )

    def test_no_free_simplex_and_no_hole(self):
        self.assertEqual(last(shape(DUNCE_HAT)), [49])
        self.assertEqual(last(shape(DUNCE_HAT), FREES), [0])
        self.assertEqual(core(DUNCE_HAT), [0, 17] + tops(DUNCE_HAT))

    def test_nothing_changes(self):
        self.assertEqual(
            ask(shape([[0, 1, 2]]), CORE, CORE, push(0, 1), CORE, LEANING),
            [[7], [3, 1, 1, 2], [3, 1, 1, 2], [5], [2, 1, 1, 2], [2, 0, 2, 1, 2]],
        )


if __name__ == "__main__":
    unittest.main()
