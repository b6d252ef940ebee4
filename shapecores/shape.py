"""The calls on one shape: they come as one list of whole numbers, and so do their answers."""

SHAPE = 0
FREES = 1
PUSH = 2
CORE = 3
LEANING = 4

MOST_CORNERS = 4
LAST_CORNER = 9
MOST_SIMPLICES = 60

NOT_A_SIMPLEX = -1
TOO_MANY = -2
NOT_THERE = -3
NOT_FREE = -6


# A simplex is kept as a tuple of its rising corners, a shape as a list of its simplices in order.
# Such a list is never changed: a smaller shape is a new list, so the one before it stays as it was.


def is_simplex(corners):
    if len(corners) < 1 or len(corners) > MOST_CORNERS:
        return False
    if len(set(corners)) != len(corners):
        return False
    return min(corners) >= 0 and max(corners) <= LAST_CORNER


def rising(corners):
    return tuple(sorted(corners))


def place_in_order(simplex):
    return (len(simplex), simplex)


def faces_of(simplex):
    found = [()]
    for corner in simplex:
        found = found + [face + (corner,) for face in found]
    # The first one has no corner at all, so it is no simplex.
    return found[1:]


def with_all_faces(simplices):
    present = {}
    for simplex in simplices:
        for face in faces_of(simplex):
            present[face] = True
    return sorted(list(present), key=place_in_order)


def is_face(simplex, other):
    for corner in simplex:
        if corner not in other:
            return False
    return True


def others_above(simplices, simplex):
    return [other for other in simplices if other != simplex and is_face(simplex, other)]


def tops_of(simplices):
    return [simplex for simplex in simplices if len(others_above(simplices, simplex)) == 0]


def free_pairs(simplices):
    pairs = []
    for simplex in simplices:
        above = others_above(simplices, simplex)
        if len(above) == 1:
            pairs.append((simplex, above[0]))
    return pairs


def without(simplices, gone):
    return [simplex for simplex in simplices if simplex not in gone]


def corners_of(simplices):
    return [simplex[0] for simplex in simplices if len(simplex) == 1]


def leans(tops, corner, other):
    # Each simplex that has the corner is a face of a top that has it,
    # and a top is a face of itself alone: so the tops tell it for all.
    for top in tops:
        if corner in top and other not in top:
            return False
    return True


def lowest_leaned_on(tops, corners, corner):
    for other in corners:
        if other != corner and leans(tops, corner, other):
            return other
    return None


def told(simplices):
    numbers = [len(simplices)]
    for simplex in simplices:
        numbers.append(len(simplex))
        numbers.extend(simplex)
    return numbers


class Shape:
    def __init__(self):
        self.simplices = []

    def become(self, lists):
        for corners in lists:
            if not is_simplex(corners):
                return [NOT_A_SIMPLEX]
        simplices = with_all_faces([rising(corners) for corners in lists])
        if len(simplices) > MOST_SIMPLICES:
            return [TOO_MANY]
        self.simplices = simplices
        return [len(simplices)]

    def frees(self):
        pairs = free_pairs(self.simplices)
        answer = [len(pairs)]
        for simplex, above in pairs:
            answer.append(len(simplex))
            answer.extend(simplex)
            answer.extend(above)
        return answer

    def push(self, corners):
        if not is_simplex(corners):
            return [NOT_A_SIMPLEX]
        simplex = rising(corners)
        if simplex not in self.simplices:
            return [NOT_THERE]
        above = others_above(self.simplices, simplex)
        if len(above) != 1:
            return [NOT_FREE]
        self.simplices = without(self.simplices, (simplex, above[0]))
        return [len(self.simplices)]

    def core(self):
        left = self.simplices
        times = 0
        pairs = free_pairs(left)
        while len(pairs) > 0:
            left = without(left, pairs[0])
            times = times + 1
            pairs = free_pairs(left)
        return [times] + told(tops_of(left))

    def leaning(self):
        tops = tops_of(self.simplices)
        corners = corners_of(self.simplices)
        found = []
        for corner in corners:
            other = lowest_leaned_on(tops, corners, corner)
            if other is not None:
                found.append((corner, other))
        answer = [len(found)]
        for pair in found:
            answer.extend(pair)
        return answer


class Reader:
    def __init__(self, calls):
        self.calls = calls
        self.place = 0

    def at_end(self):
        return self.place >= len(self.calls)

    def take_number(self):
        number = self.calls[self.place]
        self.place = self.place + 1
        return number

    def take_numbers(self):
        count = self.take_number()
        start = self.place
        self.place = start + count
        return self.calls[start:self.place]

    def take_lists(self):
        lists = []
        for k in range(self.take_number()):
            lists.append(self.take_numbers())
        return lists


class UnknownCall(ValueError):
    pass


def answer_of(shape, call, numbers, lists):
    if call == SHAPE:
        return shape.become(lists)
    if call == FREES:
        return shape.frees()
    if call == PUSH:
        return shape.push(numbers)
    if call == CORE:
        return shape.core()
    if call == LEANING:
        return shape.leaning()
    raise UnknownCall(f"no call has the number {call}")


def answers(calls):
    reader = Reader(calls)
    shape = Shape()
    given = []
    while not reader.at_end():
        call = reader.take_number()
        numbers = reader.take_numbers()
        lists = reader.take_lists()
        answer = answer_of(shape, call, numbers, lists)
        given.append(len(answer))
        given.extend(answer)
    return given
