"""Writes calls as one list of whole numbers, and reads the answers out of another."""
from shapecores.shape import answers

FREES = [1, 0, 0]
CORE = [3, 0, 0]
LEANING = [4, 0, 0]
BONE = [6, 0, 0]
FEWEST = [7, 0, 0]
LISTED = [8, 0, 0]
UNDO = [9, 0, 0]

LARGEST = 4294967295

# Two tetrahedra (30 simplices), corners 8 and 9 (32), and every edge at them (49).
FORTY_NINE = [[0, 1, 2, 3], [4, 5, 6, 7], [8, 9]]
FORTY_NINE += [[corner, far] for corner in range(8) for far in (8, 9)]
ACROSS = [[near, far] for near in range(4) for far in range(4, 8)]
SIXTY = FORTY_NINE + ACROSS[:11]
SIXTY_ONE = FORTY_NINE + ACROSS[:12]

HOLLOW_TRIANGLE = [[0, 1], [0, 2], [1, 2]]
HOLLOW_TETRAHEDRON = [[0, 1, 2], [0, 1, 3], [0, 2, 3], [1, 2, 3]]


def shape(simplices):
    numbers = [0, 0, len(simplices)]
    for corners in simplices:
        numbers += [len(corners)] + list(corners)
    return numbers


def push(*corners):
    return [2, len(corners)] + list(corners) + [0]


def leave(corner):
    return [5, 1, corner, 0]


def told(simplices):
    return [len(simplices)] + [number for corners in simplices for number in [len(corners)] + list(corners)]


def line(*calls):
    return [number for call in calls for number in call]


def split(numbers):
    parts = []
    place = 0
    while place < len(numbers):
        end = place + 1 + numbers[place]
        assert end <= len(numbers), numbers
        parts.append(numbers[place + 1:end])
        place = end
    return parts


def ask(*calls):
    return split(answers(line(*calls)))


def last(*calls):
    return ask(*calls)[-1]
