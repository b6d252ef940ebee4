"""Many shapes, each answered also by the words of the document taken one by one."""
import itertools
import random
import unittest

from lines import CORE, FREES, LEANING, ask, push, shape


class Words:
    def __init__(self):
        self.simplices = set()

    def ordered(self, simplices):
        return sorted((sorted(simplex) for simplex in simplices), key=lambda rising: (len(rising), rising))

    def fits(self, corners):
        return len(corners) in (1, 2, 3, 4) and len(set(corners)) == len(corners) and set(corners) <= set(range(10))

    def shape(self, told):
        if not all(self.fits(corners) for corners in told):
            return [-1]
        faces = set()
        for corners in told:
            for size in range(1, len(corners) + 1):
                faces.update(map(frozenset, itertools.combinations(corners, size)))
        if len(faces) > 60:
            return [-2]
        self.simplices = faces
        return [len(faces)]

    def into(self, simplices, simplex):
        others = [other for other in simplices if simplex < other]
        return others[0] if len(others) == 1 else None

    def free(self, simplices):
        return [s for s in map(frozenset, self.ordered(simplices)) if self.into(simplices, s) is not None]

    def frees(self):
        free = self.free(self.simplices)
        answer = [len(free)]
        for simplex in free:
            answer += [len(simplex)] + sorted(simplex) + sorted(self.into(self.simplices, simplex))
        return answer

    def push(self, corners):
        if not self.fits(corners):
            return [-1]
        simplex = frozenset(corners)
        if simplex not in self.simplices:
            return [-3]
        if simplex not in self.free(self.simplices):
            return [-6]
        self.simplices = self.simplices - {simplex, self.into(self.simplices, simplex)}
        return [len(self.simplices)]

    def core(self):
        left = set(self.simplices)
        times = 0
        while self.free(left):
            first = self.free(left)[0]
            left -= {first, self.into(left, first)}
            times += 1
        tops = [simplex for simplex in left if not any(simplex < other for other in left)]
        answer = [times, len(tops)]
        for rising in self.ordered(tops):
            answer += [len(rising)] + rising
        return answer

    def leans(self, corner, other):
        return all(
            any(simplex <= both and other in both for both in self.simplices)
            for simplex in self.simplices if corner in simplex
        )

    def leaning(self):
        corners = sorted(corner for simplex in self.simplices if len(simplex) == 1 for corner in simplex)
        answer = [0]
        for corner in corners:
            leaned_on = [other for other in corners if other != corner and self.leans(corner, other)]
            if leaned_on:
                answer[0] += 1
                answer += [corner, leaned_on[0]]
        return answer


def some_simplices(chance):
    corners = chance.sample(range(10), chance.randint(2, 10))
    sizes = chance.choice([[1, 2], [2], [2, 3], [3], [3, 4], [4], [1, 2, 3, 4]])
    simplices = [chance.sample(corners, min(chance.choice(sizes), len(corners))) for k in range(chance.randint(0, 12))]
    if chance.randint(0, 9) == 0:
        simplices.insert(chance.randint(0, len(simplices)), chance.choice([[], [0, 0], [10], [-1, 2], [0, 1, 2, 3, 4]]))
    return simplices


def some_corners(chance, words):
    free = words.free(words.simplices)
    if free and chance.randint(0, 3) > 0:
        return shuffled(chance, chance.choice(free))
    if words.simplices and chance.randint(0, 1) == 0:
        return shuffled(chance, chance.choice([frozenset(s) for s in words.ordered(words.simplices)]))
    return [chance.randint(-1, 10) for k in range(chance.randint(0, 5))]


def shuffled(chance, simplex):
    return chance.sample(sorted(simplex), len(simplex))


class Against(unittest.TestCase):
    def check_line(self, chance):
        words = Words()
        calls = []
        expected = []
        for k in range(chance.randint(1, 40)):
            which = chance.randint(0, 11)
            if which == 0 or k == 0:
                simplices = some_simplices(chance)
                calls.append(shape(simplices))
                expected.append(words.shape(simplices))
            elif which < 7:
                corners = some_corners(chance, words)
                calls.append(push(*corners))
                expected.append(words.push(corners))
            elif which < 9:
                calls.append(FREES)
                expected.append(words.frees())
            elif which < 10:
                calls.append(CORE)
                expected.append(words.core())
            else:
                calls.append(LEANING)
                expected.append(words.leaning())
        self.assertEqual(ask(*calls), expected)

    def test_many_lines(self):
        for seed in range(300):
            with self.subTest(seed=seed):
                self.check_line(random.Random(seed))

    def test_every_shape_on_four_corners(self):
        simplices = [list(c) for size in (1, 2, 3, 4) for c in itertools.combinations((0, 3, 4, 9), size)]
        for picked in range(1 << len(simplices)):
            told = [simplices[k] for k in range(len(simplices)) if picked >> k & 1]
            if not self.is_closed(told):
                continue
            words = Words()
            expected = [words.shape(told), words.frees(), words.core(), words.leaning()]
            self.assertEqual(ask(shape(told), FREES, CORE, LEANING), expected)

    def is_closed(self, told):
        present = set(map(tuple, told))
        return all(face in present for s in present for face in itertools.combinations(s, len(s) - 1) if face)


if __name__ == "__main__":
    unittest.main()
