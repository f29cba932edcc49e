"""The calls on one shape: read from a list of whole numbers, answered in another."""

from cutproducts.rows import HIGHEST_DIMENSION
from cutproducts.rows import is_cut
from cutproducts.rows import is_row
from cutproducts.rows import is_simplex
from cutproducts.rows import is_worth_nothing
from cutproducts.rows import most_independent
from cutproducts.rows import numbers_of
from cutproducts.rows import round_of
from cutproducts.rows import row_of
from cutproducts.rows import shape_of
from cutproducts.rows import simplices_of
from cutproducts.rows import with_faces

MOST_SIMPLICES = 70

WRONGLY_TOLD = -1
TOO_MANY = -2
NO_CUT = -6

SHAPE = 0
COUNT = 1
LISTED = 2
CUT = 3
SAME = 4


class Line:
    """One shape, empty at the beginning; each call gives the list of numbers that are answered."""

    def __init__(self):
        self.held = shape_of([])

    def shape(self, simplices):
        """Take these simplices with all their faces in the place of what was held."""
        for corners in simplices:
            if not is_simplex(corners):
                return [WRONGLY_TOLD]
        faces = with_faces(simplices)
        if len(faces) > MOST_SIMPLICES:
            return [TOO_MANY]
        self.held = shape_of(faces)
        return [len(faces)]

    def count(self):
        """The most independent cuts of each dimension."""
        return [most_independent(self.held, dimension) for dimension in range(HIGHEST_DIMENSION + 1)]

    def listed(self, dimension):
        """How many simplices the dimension has; of each how many corners, then they."""
        simplices = simplices_of(self.held, dimension)
        answer = [len(simplices)]
        for simplex in simplices:
            answer.append(len(simplex))
            answer.extend(simplex)
        return answer

    def cut(self, dimension, numbers):
        """Whether it's a cut, then the row round it behind how many that has."""
        if not is_row(self.held, dimension, numbers):
            return [WRONGLY_TOLD]
        around = numbers_of(round_of(self.held, dimension, row_of(numbers)))
        told = 1 if len(around) == 0 else 0
        return [told, len(around)] + around

    def same(self, dimension, numbers, others):
        """Whether the two cuts are worth the same."""
        if not is_row(self.held, dimension, numbers) or not is_row(self.held, dimension, others):
            return [WRONGLY_TOLD]
        row = row_of(numbers)
        other = row_of(others)
        if not is_cut(self.held, dimension, row) or not is_cut(self.held, dimension, other):
            return [NO_CUT]
        return [1 if is_worth_nothing(self.held, dimension, row ^ other) else 0]


class Reader:
    """Goes through the list of calls once, without changing it."""

    def __init__(self, calls):
        self.calls = calls
        self.place = 0

    def is_done(self):
        """Whether no call is left."""
        return self.place >= len(self.calls)

    def take_number(self):
        """The number that comes."""
        number = self.calls[self.place]
        self.place = self.place + 1
        return number

    def take_numbers(self):
        """The numbers that come behind how many they are."""
        many = self.take_number()
        start = self.place
        self.place = start + many
        return self.calls[start:start + many]

    def take_lists(self):
        """The lists that come behind how many they are."""
        many = self.take_number()
        lists = []
        while len(lists) < many:
            lists.append(self.take_numbers())
        return lists


def answer_of(line, call, numbers, lists):
    """What the line answers to the call of this number."""
    if call == SHAPE:
        return line.shape(lists)
    if call == COUNT:
        return line.count()
    if call == LISTED:
        return line.listed(numbers[0])
    if call == CUT:
        return line.cut(numbers[0], lists[0])
    if call == SAME:
        return line.same(numbers[0], lists[0], lists[1])
    raise NotImplementedError(f"there is no call {call}")


def answers(calls):
    """For each call, in order, how many numbers are answered, then these."""
    reader = Reader(calls)
    line = Line()
    answered = []
    while not reader.is_done():
        call = reader.take_number()
        numbers = reader.take_numbers()
        lists = reader.take_lists()
        answer = answer_of(line, call, numbers, lists)
        answered.append(len(answer))
        answered.extend(answer)
    return answered
