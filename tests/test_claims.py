"""What the document claims over all shapes: holes stay, the bone does not hang on the order, fewer cuts don't do."""
import itertools
import random
import unittest

from lines import BONE, FEWEST, FREES, LEANING, LISTED, ask, last, leave, push, shape


def some_simplices(chance, corners, most):
    return [chance.sample(range(corners), chance.randint(1, 3)) for k in range(chance.randint(1, most))]


def simplices_in(numbers):
    found = []
    place = 1
    while place < len(numbers):
        end = place + 1 + numbers[place]
        found.append(tuple(numbers[place + 1:end]))
        place = end
    return found


def free_in(numbers):
    found = []
    place = 1
    while place < len(numbers):
        size = numbers[place]
        found.append(tuple(numbers[place + 1:place + 1 + size]))
        place += 2 * size + 2
    return found


def same_but_for_numbers(one, other):
    here = sorted({corner for simplex in one for corner in simplex})
    there = sorted({corner for simplex in other for corner in simplex})
    wanted = set(map(frozenset, other))
    if len(here) != len(there) or len(one) != len(other):
        return False
    for order in itertools.permutations(there):
        name = dict(zip(here, order))
        if {frozenset(name[corner] for corner in simplex) for simplex in one} == wanted:
            return True
    return False


class Claims(unittest.TestCase):
    def some_small_shape(self, chance):
        told = some_simplices(chance, 6, 5)
        while last(shape(told))[0] > 13:
            told = told[1:]
        return told

    def test_what_is_pushed_in_or_left_out_leaves_all_holes(self):
        for seed in range(150):
            told = self.some_small_shape(random.Random(seed))
            before, frees, leaning = ask(shape(told), FEWEST, FREES, LEANING)[1:]
            smaller = [push(*corners) for corners in free_in(frees)] + [leave(corner) for corner in leaning[1::2]]
            for call in smaller:
                with self.subTest(told=told, call=call):
                    self.assertEqual(last(shape(told), call, FEWEST)[1], before[1])

    def test_in_whatever_order_corners_are_left_out_the_same_is_left(self):
        for seed in range(150):
            chance = random.Random(seed)
            told = some_simplices(chance, 7, 9)
            calls = [shape(told)]
            leaning = last(*calls, LEANING)
            while leaning[0] > 0:
                calls.append(leave(chance.choice(leaning[1::2])))
                leaning = last(*calls, LEANING)
            with self.subTest(told=told):
                corners, *tops = last(shape(told), BONE)
                bone = simplices_in(last(shape(simplices_in(tops)), LISTED))
                left = simplices_in(last(*calls, LISTED))
                self.assertEqual(corners, len([simplex for simplex in left if len(simplex) == 1]))
                self.assertTrue(same_but_for_numbers(left, bone))

    def test_there_are_no_fewer_cuts_than_holes(self):
        for seed in range(150):
            told = self.some_small_shape(random.Random(seed))
            cuts, holes = last(shape(told), FEWEST)
            self.assertGreaterEqual(cuts, holes)


if __name__ == "__main__":
    unittest.main()
