"""Many shapes, each answered also by the words of the document taken one by one."""
import fractions
import itertools
import random
import unittest

from lines import BONE, CORE, FEWEST, FREES, LEANING, LISTED, UNDO, ask, leave, push, shape


class Words:
    def __init__(self):
        self.simplices = frozenset()
        self.before = []

    def ordered(self, simplices):
        return sorted((sorted(simplex) for simplex in simplices), key=lambda rising: (len(rising), rising))

    def fits(self, corners):
        return len(corners) in (1, 2, 3, 4) and len(set(corners)) == len(corners) and set(corners) <= set(range(10))

    def shape(self, told):
        if not all(self.fits(corners) for corners in told):
            return [-1]
        faces = set()
        for corners in told:
            for size in range(1, len(corners) + 1):
                faces.update(map(frozenset, itertools.combinations(corners, size)))
        if len(faces) > 60:
            return [-2]
        self.simplices = frozenset(faces)
        self.before = []
        return [len(faces)]

    def change(self, simplices):
        self.before.append(self.simplices)
        self.simplices = frozenset(simplices)
        return [len(simplices)]

    def told(self, simplices):
        answer = [len(simplices)]
        for rising in self.ordered(simplices):
            answer += [len(rising)] + rising
        return answer

    def tops(self, simplices):
        return [simplex for simplex in simplices if not any(simplex < other for other in simplices)]

    def into(self, simplices, simplex):
        others = [other for other in simplices if simplex < other]
        return others[0] if len(others) == 1 else None

    def free(self, simplices):
        return [s for s in map(frozenset, self.ordered(simplices)) if self.into(simplices, s) is not None]

    def frees(self):
        free = self.free(self.simplices)
        answer = [len(free)]
        for simplex in free:
            answer += [len(simplex)] + sorted(simplex) + sorted(self.into(self.simplices, simplex))
        return answer

    def push(self, corners):
        if not self.fits(corners):
            return [-1]
        simplex = frozenset(corners)
        if simplex not in self.simplices:
            return [-3]
        if simplex not in self.free(self.simplices):
            return [-6]
        return self.change(self.simplices - {simplex, self.into(self.simplices, simplex)})

    def core(self):
        left = set(self.simplices)
        times = 0
        while self.free(left):
            first = self.free(left)[0]
            left -= {first, self.into(left, first)}
            times += 1
        return [times] + self.told(self.tops(left))

    def corners(self, simplices):
        return sorted(corner for simplex in simplices if len(simplex) == 1 for corner in simplex)

    def leans(self, simplices, corner, other):
        return all(
            any(simplex <= both and other in both for both in simplices)
            for simplex in simplices if corner in simplex
        )

    def leaning_pairs(self, simplices):
        corners = self.corners(simplices)
        pairs = []
        for corner in corners:
            leaned_on = [other for other in corners if other != corner and self.leans(simplices, corner, other)]
            if leaned_on:
                pairs.append((corner, leaned_on[0]))
        return pairs

    def leaning(self):
        pairs = self.leaning_pairs(self.simplices)
        return [len(pairs)] + [corner for pair in pairs for corner in pair]

    def left_out(self, simplices, corner):
        return frozenset(simplex for simplex in simplices if corner not in simplex)

    def leave(self, corner):
        if frozenset([corner]) not in self.simplices:
            return [-3]
        if corner not in [first for first, lowest in self.leaning_pairs(self.simplices)]:
            return [-6]
        return self.change(self.left_out(self.simplices, corner))

    def bone(self):
        left = self.simplices
        while self.leaning_pairs(left):
            left = self.left_out(left, self.leaning_pairs(left)[0][0])
        return [len(self.corners(left))] + self.told(self.tops(left))

    def fewest(self):
        if len(self.simplices) > 13:
            return [-5]
        return [self.cuts(self.simplices, {}), sum(self.holes(self.simplices, dimension) for dimension in range(4))]

    def cuts(self, simplices, known):
        if not simplices:
            return 0
        if simplices not in known:
            ways = [1 + self.cuts(simplices - {top}, known) for top in self.tops(simplices)]
            for simplex in self.free(simplices):
                ways.append(self.cuts(simplices - {simplex, self.into(simplices, simplex)}, known))
            known[simplices] = min(ways)
        return known[simplices]

    def holes(self, simplices, dimension):
        cells = [rising for rising in self.ordered(simplices) if len(rising) == dimension + 1]
        return len(cells) - self.rank(simplices, dimension) - self.rank(simplices, dimension + 1)

    def rank(self, simplices, dimension):
        if dimension == 0:
            return 0
        columns = [rising for rising in self.ordered(simplices) if len(rising) == dimension]
        found = []
        for cell in self.ordered(simplices):
            if len(cell) == dimension + 1:
                row = [fractions.Fraction(0)] * len(columns)
                for place in range(len(cell)):
                    row[columns.index(cell[:place] + cell[place + 1:])] = fractions.Fraction((-1) ** place)
                for lead, other in found:
                    row = [mine - row[lead] * its for mine, its in zip(row, other)]
                leads = [place for place, number in enumerate(row) if number]
                if leads:
                    found.append((leads[0], [number / row[leads[0]] for number in row]))
        return len(found)

    def listed(self):
        return self.told(self.simplices)

    def undo(self):
        if not self.before:
            return [-7]
        self.simplices = self.before.pop()
        return [len(self.simplices)]


def some_simplices(chance):
    corners = chance.sample(range(10), chance.randint(2, 10))
    sizes = chance.choice([[1, 2], [2], [2, 3], [3], [3, 4], [4], [1, 2, 3, 4]])
    most = chance.choice([2, 4, 12])
    simplices = [chance.sample(corners, min(chance.choice(sizes), len(corners))) for k in range(chance.randint(0, most))]
    if chance.randint(0, 9) == 0:
        simplices.insert(chance.randint(0, len(simplices)), chance.choice([[], [0, 0], [10], [-1, 2], [0, 1, 2, 3, 4]]))
    return simplices


def some_corners(chance, words):
    free = words.free(words.simplices)
    if free and chance.randint(0, 3) > 0:
        return shuffled(chance, chance.choice(free))
    if words.simplices and chance.randint(0, 1) == 0:
        return shuffled(chance, chance.choice([frozenset(s) for s in words.ordered(words.simplices)]))
    return [chance.randint(-1, 10) for k in range(chance.randint(0, 5))]


def some_corner(chance, words):
    leaning = words.leaning_pairs(words.simplices)
    if leaning and chance.randint(0, 3) > 0:
        return chance.choice(leaning)[0]
    return chance.choice([0, 1, 2, 3, 4, 5, 6, 7, 8, 9, 10, 4294967295])


def shuffled(chance, simplex):
    return chance.sample(sorted(simplex), len(simplex))


class Against(unittest.TestCase):
    asking = {
        "frees": FREES, "core": CORE, "leaning": LEANING, "bone": BONE, "fewest": FEWEST, "listed": LISTED,
        "undo": UNDO,
    }
    names = ["shape"] + ["push", "leave"] * 5 + ["undo"] * 3 + ["frees", "core", "leaning", "bone", "fewest", "listed"]

    def some_call(self, chance, words, name):
        if name == "shape":
            simplices = some_simplices(chance)
            return shape(simplices), words.shape(simplices)
        if name == "push":
            corners = some_corners(chance, words)
            return push(*corners), words.push(corners)
        if name == "leave":
            corner = some_corner(chance, words)
            return leave(corner), words.leave(corner)
        return self.asking[name], getattr(words, name)()

    def check_line(self, chance):
        words = Words()
        calls = []
        expected = []
        for k in range(chance.randint(1, 40)):
            name = "shape" if k == 0 and chance.randint(0, 9) > 0 else chance.choice(self.names)
            if name == "fewest" and calls.count(FEWEST) == 4:
                name = "listed"
            call, answer = self.some_call(chance, words, name)
            calls.append(call)
            expected.append(answer)
        self.assertEqual(ask(*calls), expected)

    def test_many_lines(self):
        for seed in range(400):
            with self.subTest(seed=seed):
                self.check_line(random.Random(seed))

    def test_every_shape_on_four_corners(self):
        simplices = [list(c) for size in (1, 2, 3, 4) for c in itertools.combinations((0, 3, 4, 9), size)]
        for picked in range(1 << len(simplices)):
            told = [simplices[k] for k in range(len(simplices)) if picked >> k & 1]
            if not self.is_closed(told):
                continue
            words = Words()
            expected = [words.shape(told)] + [getattr(words, name)() for name in self.asking]
            self.assertEqual(ask(shape(told), *self.asking.values()), expected)
            self.check_every_leave(told)

    def check_every_leave(self, told):
        for corner in range(11):
            words = Words()
            expected = [words.shape(told), words.leave(corner), words.listed(), words.undo(), words.listed()]
            self.assertEqual(ask(shape(told), leave(corner), LISTED, UNDO, LISTED), expected)

    def is_closed(self, told):
        present = set(map(tuple, told))
        return all(face in present for s in present for face in itertools.combinations(s, len(s) - 1) if face)


if __name__ == "__main__":
    unittest.main()
