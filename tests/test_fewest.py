import itertools
import time
import unittest

from lines import FEWEST, HOLLOW_TETRAHEDRON, HOLLOW_TRIANGLE, LISTED, SIXTY, UNDO, ask, last, leave, push, shape, told

FRAME = [[0, 1], [0, 2], [0, 3], [1, 2], [1, 3], [2, 3]]
APART = [[corner] for corner in range(10)]
# Of all shapes of at most 13 simplices this one has the most parts that are shapes: 18 times 2 to the 7th.
COSTLIEST = APART + HOLLOW_TRIANGLE
COSTLY = [
    COSTLIEST,
    APART + [[0, 1], [2, 3], [4, 5]],
    [[0, 1], [2, 3], [4, 5], [6, 7], [8]],
    APART + [[0, 1], [1, 2], [2, 3]],
    [[0, k] for k in range(1, 7)],
    [[0, 1], [1, 2], [2, 3], [3, 4], [4, 5], [5, 6]],
    FRAME + HOLLOW_TETRAHEDRON[:3],
    [[0, 1, 2], [2, 3], [3, 4], [0, 4], [9]],
]


def fewest(simplices):
    return last(shape(simplices), FEWEST)


def ring(count):
    return [[k, (k + 1) % count] for k in range(count)]


class Ordinary(unittest.TestCase):
    def test_corners_apart(self):
        for count in range(1, 11):
            self.assertEqual(fewest(APART[:count]), [count, count])

    def test_what_goes_by_pushes_but_for_a_corner(self):
        for simplices in (
            [[0, 1]], [[0, 1], [1, 2]], [[0, 1, 2]], [[0, 1, 2], [2, 3]], [[0, 1, 2], [1, 2, 3]],
            HOLLOW_TETRAHEDRON[:3], HOLLOW_TETRAHEDRON[1:], [[0, k] for k in range(1, 7)],
        ):
            with self.subTest(simplices=simplices):
                self.assertEqual(fewest(simplices), [1, 1])

    def test_a_circle(self):
        for count in range(3, 7):
            self.assertEqual(fewest(ring(count)), [2, 2])

    def test_two_circles_that_meet(self):
        # In a corner, and in a side.
        self.assertEqual(fewest([[0, 1], [0, 2], [1, 2], [2, 3], [2, 4], [3, 4]]), [3, 3])
        self.assertEqual(fewest([[0, 1], [0, 2], [1, 2], [1, 3], [2, 3]]), [3, 3])

    def test_two_circles_apart(self):
        self.assertEqual(fewest([[0, 1], [0, 2], [1, 2], [3, 4], [3, 5], [4, 5]]), [4, 4])

    def test_a_frame_filled_bit_by_bit(self):
        self.assertEqual(fewest(FRAME), [4, 4])
        for count in range(4):
            self.assertEqual(fewest(FRAME + HOLLOW_TETRAHEDRON[:count]), [4 - count, 4 - count])

    def test_a_filled_triangle_beside_a_hole(self):
        self.assertEqual(fewest([[0, 1, 2], [0, 3], [1, 3]]), [2, 2])
        self.assertEqual(fewest(HOLLOW_TRIANGLE + [[5], [6, 7]]), [4, 4])


class Edges(unittest.TestCase):
    def test_the_empty_shape(self):
        self.assertEqual(ask(FEWEST), [[0, 0]])
        self.assertEqual(fewest([]), [0, 0])

    def test_one_corner(self):
        self.assertEqual(fewest([[0]]), [1, 1])
        self.assertEqual(fewest([[9]]), [1, 1])

    def test_thirteen_simplices(self):
        for simplices, answer in [
            (COSTLIEST, [9, 9]),
            (APART + [[0, 1], [2, 3], [4, 5]], [7, 7]),
            (HOLLOW_TETRAHEDRON[:3], [1, 1]),
            (ring(6) + [[9]], [3, 3]),
            ([[0, 1, 2], [2, 3], [3, 4], [0, 4], [9]], [3, 3]),
        ]:
            with self.subTest(simplices=simplices):
                self.assertEqual(ask(shape(simplices), FEWEST), [[13], answer])

    def test_fourteen_simplices(self):
        for simplices in (
            HOLLOW_TETRAHEDRON, ring(7), COSTLIEST + [[6, 7]], [[0, 1, 2], [3, 4, 5]], ring(6) + [[8], [9]],
        ):
            with self.subTest(simplices=simplices):
                self.assertEqual(ask(shape(simplices), FEWEST), [[14], [-5]])

    def test_more_still(self):
        self.assertEqual(fewest([[0, 1, 2, 3]]), [-5])
        self.assertEqual(fewest(SIXTY), [-5])

    def test_what_counts_is_how_many_there_are_then(self):
        self.assertEqual(
            ask(shape([[0, 1, 2, 3]]), FEWEST, push(0, 1, 2), FEWEST, UNDO, FEWEST, leave(0), FEWEST),
            [[15], [-5], [13], [1, 1], [15], [-5], [7], [1, 1]],
        )

    def test_nothing_changes(self):
        whole = told([[0], [1], [2], [0, 1], [0, 2], [1, 2]])
        self.assertEqual(
            ask(shape(HOLLOW_TRIANGLE), FEWEST, LISTED, FEWEST, LISTED, UNDO),
            [[6], [2, 2], whole, [2, 2], whole, [-7]],
        )
        listed = last(shape(HOLLOW_TETRAHEDRON), LISTED)
        self.assertEqual(ask(shape(HOLLOW_TETRAHEDRON), FEWEST, LISTED, UNDO), [[14], [-5], listed, [-7]])
        self.assertEqual(
            ask(shape([[0, 1], [1, 2]]), leave(0), FEWEST, UNDO, UNDO), [[5], [3], [1, 1], [5], [-7]]
        )


class Ways(unittest.TestCase):
    def every_way(self, left):
        if not left:
            return {0}
        found = set()
        for simplex in left:
            above = [other for other in left if simplex < other]
            if not above:
                found |= {1 + cuts for cuts in self.every_way(left - {simplex})}
            elif len(above) == 1:
                found |= self.every_way(left - {simplex, above[0]})
        return found

    def faces(self, simplices):
        return frozenset(
            frozenset(face) for s in simplices for size in range(1, len(s) + 1) for face in itertools.combinations(s, size)
        )

    def test_the_fewest_of_every_way_there_is(self):
        for simplices in ([], [[3]], [[0, 1]], [[0, 1], [1, 2]], [[0, 1, 2]], HOLLOW_TRIANGLE, [[0, 1], [2]],
                          [[0, 1], [0, 2], [0, 3]], HOLLOW_TRIANGLE + [[2, 3]]):
            with self.subTest(simplices=simplices):
                ways = self.every_way(self.faces(simplices))
                self.assertEqual(fewest(simplices)[0], min(ways))
                # Cutting alone would be a way too, so there is something to choose.
                self.assertEqual(max(ways), len(self.faces(simplices)))


class Waited(unittest.TestCase):
    def test_four_on_the_costliest(self):
        for simplices in COSTLY:
            with self.subTest(simplices=simplices):
                start = time.monotonic()
                given = ask(shape(simplices), FEWEST, FEWEST, FEWEST, FEWEST)
                self.assertLess(time.monotonic() - start, 20)
                self.assertEqual(given[0], [13])
                self.assertEqual(given[1:], [given[1]] * 4)
                self.assertEqual(len(given[1]), 2)


if __name__ == "__main__":
    unittest.main()
