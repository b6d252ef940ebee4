import unittest

from lines import (
    BONE,
    CORE,
    FEWEST,
    FREES,
    LARGEST,
    LEANING,
    LISTED,
    SIXTY,
    SIXTY_ONE,
    UNDO,
    ask,
    leave,
    line,
    push,
    shape,
)
from shapecores.shape import answers

EVERY_CALL = [
    FREES, shape([[2, 1, 0], [2, 3]]), FREES, push(1, 0), CORE, push(0, 1), push(2), push(7, 7), LEANING,
    shape([[1, 1]]), shape(SIXTY_ONE), push(3), FREES, BONE, FEWEST, LISTED, leave(0), leave(0), leave(LARGEST),
    leave(1), UNDO, UNDO, UNDO, LISTED, shape(SIXTY), CORE, LEANING, BONE, FEWEST, LISTED, leave(9), UNDO, shape([]),
    CORE, FEWEST, UNDO,
]


class HandedIn(unittest.TestCase):
    def test_the_numbers_of_a_line(self):
        # shape 1 0; frees; push 0; core; leaning; written out number by number.
        calls = [0, 0, 1, 2, 1, 0, 1, 0, 0, 2, 1, 0, 0, 3, 0, 0, 4, 0, 0]
        self.assertEqual(answers(calls), [1, 3, 9, 2, 1, 0, 0, 1, 1, 1, 0, 1, 1, 1, 4, 0, 1, 1, 1, 1, 0])

    def test_the_line_of_the_readme(self):
        calls = [0, 0, 1, 3, 0, 1, 2, 1, 0, 0, 2, 2, 0, 1, 0, 3, 0, 0, 4, 0, 0]
        frees = [3, 2, 0, 1, 0, 1, 2, 2, 0, 2, 0, 1, 2, 2, 1, 2, 0, 1, 2]
        self.assertEqual(answers(calls), [1, 7, 19] + frees + [1, 5, 4, 2, 1, 1, 2, 5, 2, 0, 2, 1, 2])

    def test_the_numbers_of_the_later_calls(self):
        # shape 0 1; leave 1; bone; fewest; listed; undo; written out number by number.
        calls = [0, 0, 1, 2, 0, 1, 5, 1, 1, 0, 6, 0, 0, 7, 0, 0, 8, 0, 0, 9, 0, 0]
        self.assertEqual(answers(calls), [1, 3, 1, 1, 4, 1, 1, 1, 0, 2, 1, 1, 3, 1, 1, 0, 1, 3])

    def test_the_second_line_of_the_readme(self):
        calls = [0, 0, 4, 2, 0, 1, 2, 1, 2, 2, 0, 2, 2, 2, 3, 5, 1, 3, 0, 6, 0, 0, 7, 0, 0, 9, 0, 0, 8, 0, 0]
        bone = [3, 3, 2, 0, 1, 2, 0, 2, 2, 1, 2]
        listed = [8, 1, 0, 1, 1, 1, 2, 1, 3, 2, 0, 1, 2, 0, 2, 2, 1, 2, 2, 2, 3]
        self.assertEqual(answers(calls), [1, 8, 1, 6, 11] + bone + [2, 2, 2, 1, 8, 21] + listed)

    def test_lists_of_no_numbers_are_read_over(self):
        # A simplex of no corner takes one number, its count; the call behind it is found.
        self.assertEqual(answers([0, 0, 2, 0, 0, 3, 0, 0]), [1, -1, 2, 0, 0])
        self.assertEqual(answers([2, 0, 0, 3, 0, 0]), [1, -1, 2, 0, 0])

    def test_the_call_behind_a_refused_one_is_found(self):
        self.assertEqual(ask(push(1, 2, 3, 4, 5, 6, 7, 8), shape([[0] * 8, [1]]), shape([[1]])), [[-1], [-1], [1]])

    def test_forty_calls(self):
        calls = [shape([[0, 1]])] + [CORE] * 39
        self.assertEqual(ask(*calls), [[3]] + [[1, 1, 1, 1]] * 39)

    def test_the_list_is_as_it_was(self):
        calls = line(*EVERY_CALL)
        kept = list(calls)
        answers(calls)
        self.assertEqual(calls, kept)

    def test_the_list_is_not_changed_for_a_while_either(self):
        answers(Unchangeable(line(*EVERY_CALL)))


class GivenBack(unittest.TestCase):
    def test_asking_twice_answers_the_same(self):
        calls = line(*EVERY_CALL)
        first = answers(calls)
        self.assertEqual(answers(calls), first)
        self.assertIsNot(answers(calls), first)

    def test_nothing_is_kept_to_the_next_time(self):
        answers(line(shape([[0, 1, 2]])))
        self.assertEqual(ask(FREES, CORE, LEANING, push(0)), [[0], [0, 0], [0], [-3]])
        answers(line(shape([[0, 1, 2]]), leave(0)))
        self.assertEqual(ask(UNDO, LISTED, BONE, FEWEST, leave(1)), [[-7], [0], [0, 0], [0, 0], [-3]])

    def test_what_was_given_back_is_the_askers(self):
        calls = line(*EVERY_CALL)
        first = answers(calls)
        kept = list(first)
        first.clear()
        self.assertEqual(answers(calls), kept)

    def test_one_flat_list_of_whole_numbers(self):
        given = answers(line(*EVERY_CALL))
        self.assertIs(type(given), list)
        self.assertEqual({type(number) for number in given}, {int})

    def test_every_call_is_there(self):
        self.assertEqual({call[0] for call in EVERY_CALL}, set(range(10)))
        self.assertLessEqual(len(EVERY_CALL), 40)
        self.assertLessEqual(EVERY_CALL.count(FEWEST), 4)

    def test_every_refusal_is_there(self):
        refusals = {answer[0] for answer in ask(*EVERY_CALL) if answer[0] < 0}
        self.assertEqual(refusals, {-1, -2, -3, -5, -6, -7})

    def test_one_answer_a_call(self):
        self.assertEqual(len(ask(*EVERY_CALL)), len(EVERY_CALL))

    def test_below_zero_is_a_refusal_alone(self):
        for answer in ask(*EVERY_CALL):
            if min(answer) < 0:
                self.assertEqual(len(answer), 1)


class Unchangeable(list):
    def refuse(self, *ignored, **named):
        raise AssertionError("the list handed in was changed")

    __setitem__ = __delitem__ = __iadd__ = __imul__ = refuse
    append = clear = extend = insert = pop = remove = reverse = sort = refuse


if __name__ == "__main__":
    unittest.main()
