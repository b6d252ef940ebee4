import unittest

from lines import (
    BONE,
    CORE,
    FEWEST,
    FREES,
    LARGEST,
    LEANING,
    LISTED,
    SIXTY_ONE,
    UNDO,
    ask,
    last,
    leave,
    push,
    shape,
    told,
)

TRIANGLE = shape([[0, 1, 2]])
WHOLE = told([[0], [1], [2], [0, 1], [0, 2], [1, 2], [0, 1, 2]])


class Ordinary(unittest.TestCase):
    def test_over_a_push(self):
        self.assertEqual(ask(TRIANGLE, push(0, 1), UNDO, LISTED, UNDO), [[7], [5], [7], WHOLE, [-7]])

    def test_over_a_leave(self):
        self.assertEqual(ask(TRIANGLE, leave(0), UNDO, LISTED, UNDO), [[7], [3], [7], WHOLE, [-7]])

    def test_back_to_the_beginning(self):
        given = ask(
            TRIANGLE, push(0, 1), LISTED, leave(0), LISTED, push(1), UNDO, LISTED, UNDO, LISTED, UNDO, LISTED, UNDO,
            LISTED,
        )
        pushed = told([[0], [1], [2], [0, 2], [1, 2]])
        left = told([[1], [2], [1, 2]])
        self.assertEqual(given[:6], [[7], [5], pushed, [3], left, [1]])
        self.assertEqual(given[6:], [[3], left, [5], pushed, [7], WHOLE, [-7], WHOLE])

    def test_new_ones_between(self):
        self.assertEqual(
            ask(TRIANGLE, push(0, 1), push(0), UNDO, leave(1), LISTED, UNDO, UNDO, leave(2), LISTED, UNDO, LISTED, UNDO),
            [[7], [5], [3], [5], [3], told([[0], [2], [0, 2]]), [5], [7], [3], told([[0], [1], [0, 1]]), [7], WHOLE,
             [-7]],
        )

    def test_what_was_undone_can_be_done_again(self):
        self.assertEqual(
            ask(TRIANGLE, push(0, 1), UNDO, push(0, 1), UNDO, push(0, 1), LISTED),
            [[7], [5], [7], [5], [7], [5], told([[0], [1], [2], [0, 2], [1, 2]])],
        )

    def test_what_is_asked_behind_it(self):
        before = ask(TRIANGLE, FREES, CORE, LEANING, BONE, FEWEST, LISTED)
        given = ask(TRIANGLE, push(0, 1), leave(1), UNDO, UNDO, FREES, CORE, LEANING, BONE, FEWEST, LISTED)
        self.assertEqual(given[5:], before[1:])


class Edges(unittest.TestCase):
    def test_as_often_as_a_line_has_room_for(self):
        # 1 shape, 9 leaves, 9 undos, 9 leaves from the other end, 9 undos.
        calls = [shape([[k, k + 1] for k in range(9)])]
        calls += [leave(k) for k in range(9)] + [UNDO] * 9 + [leave(k) for k in range(9, 0, -1)] + [UNDO] * 9 + [UNDO]
        down = [[count] for count in range(17, 0, -2)]
        up = [[count] for count in range(3, 20, 2)]
        self.assertEqual(ask(*calls), [[19]] + down + up + down + up + [[-7]])

    def test_asking_is_nothing_to_undo(self):
        self.assertEqual(
            ask(TRIANGLE, push(0, 1), FREES, CORE, LEANING, BONE, FEWEST, LISTED, UNDO, UNDO)[-2:], [[7], [-7]]
        )

    def test_behind_a_shape_nothing_can_be_undone(self):
        self.assertEqual(
            ask(TRIANGLE, push(0, 1), leave(0), shape([[5, 6]]), UNDO, LISTED),
            [[7], [5], [3], [3], [-7], told([[5], [6], [5, 6]])],
        )
        self.assertEqual(ask(TRIANGLE, leave(0), shape([]), UNDO, LISTED), [[7], [3], [0], [-7], [0]])
        self.assertEqual(
            ask(TRIANGLE, leave(0), shape([[5, 6]]), leave(5), UNDO, UNDO), [[7], [3], [3], [1], [3], [-7]]
        )

    def test_behind_a_refused_shape_what_could_be_undone_still_can(self):
        for refused, number in [([[0, 0]], -1), ([[1], []], -1), (SIXTY_ONE, -2)]:
            with self.subTest(refused=refused):
                self.assertEqual(
                    ask(TRIANGLE, push(0, 1), leave(0), shape(refused), UNDO, UNDO, LISTED, UNDO),
                    [[7], [5], [3], [number], [5], [7], WHOLE, [-7]],
                )

    def test_what_was_refused_is_nothing_to_undo(self):
        for refused, number in [
            (push(), -1), (push(0, 0), -1), (push(9), -3), (push(0, 1), -3), (push(2), -6),
            (leave(9), -3), (leave(LARGEST), -3), (leave(2), -6),
        ]:
            with self.subTest(refused=refused):
                self.assertEqual(
                    ask(TRIANGLE, push(0, 1), refused, UNDO, LISTED, UNDO), [[7], [5], [number], [7], WHOLE, [-7]]
                )


class Refused(unittest.TestCase):
    def test_nothing_at_the_beginning(self):
        self.assertEqual(ask(UNDO, UNDO), [[-7], [-7]])

    def test_nothing_behind_a_shape(self):
        self.assertEqual(ask(TRIANGLE, UNDO, LISTED), [[7], [-7], WHOLE])

    def test_only_refused_ones_before(self):
        self.assertEqual(ask(push(0), leave(0), shape([[10]]), UNDO), [[-3], [-3], [-1], [-7]])
        self.assertEqual(last(shape([[4]]), push(4), leave(4), UNDO), [-7])

    def test_all_is_as_it_was(self):
        self.assertEqual(ask(TRIANGLE, leave(0), UNDO, UNDO, leave(1), UNDO), [[7], [3], [7], [-7], [3], [7]])


if __name__ == "__main__":
    unittest.main()
