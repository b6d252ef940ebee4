"""The calls on one shape: they come as one list of whole numbers, and so do their answers."""

SHAPE = 0
FREES = 1
PUSH = 2
CORE = 3
LEANING = 4
LEAVE = 5
BONE = 6
FEWEST = 7
LISTED = 8
UNDO = 9

MOST_CORNERS = 4
LAST_CORNER = 9
MOST_SIMPLICES = 60
MOST_FOR_FEWEST = 13

NOT_A_SIMPLEX = -1
TOO_MANY = -2
NOT_THERE = -3
TOO_MANY_FOR_FEWEST = -5
NOT_FREE = -6
NOT_LEANING = -6
NOTHING_TO_UNDO = -7


# A simplex is kept as a tuple of its rising corners, a shape as a list of its simplices in order.
# Such a list is never changed: a smaller shape is a new list, so the one before it stays as it was.


def is_simplex(corners):
    if len(corners) < 1 or len(corners) > MOST_CORNERS:
        return False
    if len(set(corners)) != len(corners):
        return False
    return min(corners) >= 0 and max(corners) <= LAST_CORNER


def rising(corners):
    return tuple(sorted(corners))


def place_in_order(simplex):
    return (len(simplex), simplex)


def faces_of(simplex):
    found = [()]
    for corner in simplex:
        found = found + [face + (corner,) for face in found]
    # The first one has no corner at all, so it is no simplex.
    return found[1:]


def with_all_faces(simplices):
    present = {}
    for simplex in simplices:
        for face in faces_of(simplex):
            present[face] = True
    return sorted(list(present), key=place_in_order)


def is_face(simplex, other):
    for corner in simplex:
        if corner not in other:
            return False
    return True


def others_above(simplices, simplex):
    return [other for other in simplices if other != simplex and is_face(simplex, other)]


def tops_of(simplices):
    return [simplex for simplex in simplices if len(others_above(simplices, simplex)) == 0]


def free_pairs(simplices):
    pairs = []
    for simplex in simplices:
        above = others_above(simplices, simplex)
        if len(above) == 1:
            pairs.append((simplex, above[0]))
    return pairs


def without(simplices, gone):
    return [simplex for simplex in simplices if simplex not in gone]


def without_corner(simplices, corner):
    return [simplex for simplex in simplices if corner not in simplex]


def corners_of(simplices):
    return [simplex[0] for simplex in simplices if len(simplex) == 1]


def leans(tops, corner, other):
    # Each simplex that has the corner is a face of a top that has it,
    # and a top is a face of itself alone: so the tops tell it for all.
    for top in tops:
        if corner in top and other not in top:
            return False
    return True


def lowest_leaned_on(tops, corners, corner):
    for other in corners:
        if other != corner and leans(tops, corner, other):
            return other
    return None


def leaning_pairs(simplices):
    tops = tops_of(simplices)
    corners = corners_of(simplices)
    pairs = []
    for corner in corners:
        other = lowest_leaned_on(tops, corners, corner)
        if other is not None:
            pairs.append((corner, other))
    return pairs


# For the cuts a part of the shape is one whole number: its bit k is set if simplex k is left in it.


def bits_above(simplices):
    found = []
    for simplex in simplices:
        bits = 0
        for k, other in enumerate(simplices):
            if other != simplex and is_face(simplex, other):
                bits = bits | (1 << k)
        found.append(bits)
    return found


def steps_from(above, left):
    steps = []
    for k, bits in enumerate(above):
        if left & (1 << k) != 0:
            over = bits & left
            if over == 0:
                steps.append((left - (1 << k), 1))
            elif over & (over - 1) == 0:
                # Just one bit is set, so the simplex is free, and goes with that one.
                steps.append((left - (1 << k) - over, 0))
    return steps


def fewest_cuts(simplices):
    above = bits_above(simplices)
    whole = (1 << len(simplices)) - 1
    cuts = {whole: 0}
    # Each step leads to a lesser number: at its turn a part has been reached in every way there is.
    # No way has more cuts than there are simplices, so that number stands for a part not yet reached.
    for left in range(whole, 0, -1):
        if left in cuts:
            for rest, cut in steps_from(above, left):
                cuts[rest] = min(cuts.get(rest, len(simplices)), cuts[left] + cut)
    return cuts[0]


def boundary_row(simplices, simplex):
    row = [0] * len(simplices)
    if len(simplex) > 1:
        for k in range(len(simplex)):
            face = simplex[:k] + simplex[k + 1:]
            row[simplices.index(face)] = 1 if k % 2 == 0 else -1
    return row


def first_not_zero(row):
    for k, number in enumerate(row):
        if number != 0:
            return k
    return None


def cleared_at(place, row, first):
    # Multiplied crosswise instead of divided, so that all numbers stay whole.
    return [row[k] * first[place] - first[k] * row[place] for k in range(len(row))]


def rank_of(rows):
    rank = 0
    left = rows
    while len(left) > 0:
        first = left[0]
        left = left[1:]
        place = first_not_zero(first)
        if place is not None:
            rank = rank + 1
            left = [cleared_at(place, row, first) for row in left]
    return rank


def holes_in_all(simplices):
    # In each dimension the holes are the simplices, less the rank of their boundaries (what is no cycle),
    # less the rank of the boundaries from one dimension above: together each rank is taken off twice.
    rows = [boundary_row(simplices, simplex) for simplex in simplices]
    return len(simplices) - 2 * rank_of(rows)


def told(simplices):
    numbers = [len(simplices)]
    for simplex in simplices:
        numbers.append(len(simplex))
        numbers.extend(simplex)
    return numbers


class Shape:
    def __init__(self):
        self.simplices = []
        self.earlier = []

    def change_to(self, simplices):
        self.earlier.append(self.simplices)
        self.simplices = simplices
        return [len(simplices)]

    def become(self, lists):
        for corners in lists:
            if not is_simplex(corners):
                return [NOT_A_SIMPLEX]
        simplices = with_all_faces([rising(corners) for corners in lists])
        if len(simplices) > MOST_SIMPLICES:
            return [TOO_MANY]
        self.simplices = simplices
        self.earlier = []
        return [len(simplices)]

    def frees(self):
        pairs = free_pairs(self.simplices)
        answer = [len(pairs)]
        for simplex, above in pairs:
            answer.append(len(simplex))
            answer.extend(simplex)
            answer.extend(above)
        return answer

    def push(self, corners):
        if not is_simplex(corners):
            return [NOT_A_SIMPLEX]
        simplex = rising(corners)
        if simplex not in self.simplices:
            return [NOT_THERE]
        above = others_above(self.simplices, simplex)
        if len(above) != 1:
            return [NOT_FREE]
        return self.change_to(without(self.simplices, (simplex, above[0])))

    def core(self):
        left = self.simplices
        times = 0
        pairs = free_pairs(left)
        while len(pairs) > 0:
            left = without(left, pairs[0])
            times = times + 1
            pairs = free_pairs(left)
        return [times] + told(tops_of(left))

    def leaning(self):
        pairs = leaning_pairs(self.simplices)
        answer = [len(pairs)]
        for pair in pairs:
            answer.extend(pair)
        return answer

    def leave(self, corner):
        corners = corners_of(self.simplices)
        if corner not in corners:
            return [NOT_THERE]
        if lowest_leaned_on(tops_of(self.simplices), corners, corner) is None:
            return [NOT_LEANING]
        return self.change_to(without_corner(self.simplices, corner))

    def bone(self):
        left = self.simplices
        pairs = leaning_pairs(left)
        while len(pairs) > 0:
            left = without_corner(left, pairs[0][0])
            pairs = leaning_pairs(left)
        return [len(corners_of(left))] + told(tops_of(left))

    def fewest(self):
        if len(self.simplices) > MOST_FOR_FEWEST:
            return [TOO_MANY_FOR_FEWEST]
        return [fewest_cuts(self.simplices), holes_in_all(self.simplices)]

    def listed(self):
        return told(self.simplices)

    def undo(self):
        if len(self.earlier) == 0:
            return [NOTHING_TO_UNDO]
        self.simplices = self.earlier.pop()
        return [len(self.simplices)]


class Reader:
    def __init__(self, calls):
        self.calls = calls
        self.place = 0

    def at_end(self):
        return self.place >= len(self.calls)

    def take_number(self):
        number = self.calls[self.place]
        self.place = self.place + 1
        return number

    def take_numbers(self):
        count = self.take_number()
        start = self.place
        self.place = start + count
        return self.calls[start:self.place]

    def take_lists(self):
        lists = []
        for k in range(self.take_number()):
            lists.append(self.take_numbers())
        return lists


class UnknownCall(ValueError):
    pass


def answer_of(shape, call, numbers, lists):
    if call == SHAPE:
        return shape.become(lists)
    if call == FREES:
        return shape.frees()
    if call == PUSH:
        return shape.push(numbers)
    if call == CORE:
        return shape.core()
    if call == LEANING:
        return shape.leaning()
    if call == LEAVE:
        return shape.leave(numbers[0])
    if call == BONE:
        return shape.bone()
    if call == FEWEST:
        return shape.fewest()
    if call == LISTED:
        return shape.listed()
    if call == UNDO:
        return shape.undo()
    raise UnknownCall(f"no call has the number {call}")


def answers(calls):
    reader = Reader(calls)
    shape = Shape()
    given = []
    while not reader.at_end():
        call = reader.take_number()
        numbers = reader.take_numbers()
        lists = reader.take_lists()
        answer = answer_of(shape, call, numbers, lists)
        given.append(len(answer))
        given.extend(answer)
    return given
