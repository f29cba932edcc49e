"""The calls on one shape: read from a list of whole numbers, answered in another."""

from cutproducts.products import longest_product
from cutproducts.products import most_without_products
from cutproducts.products import product_of
from cutproducts.rows import HIGHEST_DIMENSION
from cutproducts.rows import crossings
from cutproducts.rows import is_cut
from cutproducts.rows import is_cycle
from cutproducts.rows import is_row
from cutproducts.rows import is_simplex
from cutproducts.rows import is_worth_nothing
from cutproducts.rows import most_independent
from cutproducts.rows import numbers_of
from cutproducts.rows import round_of
from cutproducts.rows import row_of
from cutproducts.rows import shape_of
from cutproducts.rows import simplices_of
from cutproducts.rows import with_faces

MOST_SIMPLICES = 70
MOST_CUTS = 6

NOT_REFUSED = 0
WRONGLY_TOLD = -1
TOO_MANY = -2
BEYOND = -5
NO_CUT = -6

SHAPE = 0
COUNT = 1
LISTED = 2
CUT = 3
SAME = 4
TIMES = 5
FORM = 6
LONGEST = 7
CROSSES = 8


class Line:
    """One shape, empty at the beginning; each call gives the list of numbers that are answered."""

    def __init__(self):
        self.held = shape_of([])

    def shape(self, simplices):
        """Take these simplices with all their faces in the place of what was held."""
        for corners in simplices:
            if not is_simplex(corners):
                return [WRONGLY_TOLD]
        faces = with_faces(simplices)
        if len(faces) > MOST_SIMPLICES:
            return [TOO_MANY]
        self.held = shape_of(faces)
        return [len(faces)]

    def count(self):
        """The most independent cuts of each dimension."""
        return [most_independent(self.held, dimension) for dimension in range(HIGHEST_DIMENSION + 1)]

    def listed(self, dimension):
        """How many simplices the dimension has; of each how many corners, then they."""
        simplices = simplices_of(self.held, dimension)
        answer = [len(simplices)]
        for simplex in simplices:
            answer.append(len(simplex))
            answer.extend(simplex)
        return answer

    def cut(self, dimension, numbers):
        """Whether it's a cut, then the row round it behind how many that has."""
        if not is_row(self.held, dimension, numbers):
            return [WRONGLY_TOLD]
        around = numbers_of(round_of(self.held, dimension, row_of(numbers)))
        told = 1 if len(around) == 0 else 0
        return [told, len(around)] + around

    def refusal_of_cuts(self, p, q, numbers, others):
        """The refusal that's due for a cut of dimension p and one of q, by their numbers."""
        if not is_row(self.held, p, numbers) or not is_row(self.held, q, others):
            return WRONGLY_TOLD
        if not is_cut(self.held, p, row_of(numbers)) or not is_cut(self.held, q, row_of(others)):
            return NO_CUT
        return NOT_REFUSED

    def same(self, dimension, numbers, others):
        """Whether the two cuts are worth the same."""
        refusal = self.refusal_of_cuts(dimension, dimension, numbers, others)
        if refusal != NOT_REFUSED:
            return [refusal]
        added = row_of(numbers) ^ row_of(others)
        return [1 if is_worth_nothing(self.held, dimension, added) else 0]

    def times(self, p, q, numbers, others):
        """Whether the product of the two cuts is worth something, then its row behind how many that has."""
        refusal = self.refusal_of_cuts(p, q, numbers, others)
        if refusal != NOT_REFUSED:
            return [refusal]
        if p + q > HIGHEST_DIMENSION:
            return [BEYOND]
        product = product_of(self.held, p, q, row_of(numbers), row_of(others))
        told = 0 if is_worth_nothing(self.held, p + q, product) else 1
        members = numbers_of(product)
        return [told, len(members)] + members

    def form(self):
        """The most independent cuts of dimension 1, then those of them without a product worth something."""
        most = most_independent(self.held, 1)
        if most > MOST_CUTS:
            return [BEYOND]
        return [most, most_without_products(self.held)]

    def longest(self):
        """The most cuts whose product can be worth something."""
        if most_independent(self.held, 1) > MOST_CUTS:
            return [BEYOND]
        return [longest_product(self.held)]

    def crosses(self, dimension, numbers, others):
        """Whether the cut crosses the cycle, which is the other row, an odd number of times."""
        if not is_row(self.held, dimension, numbers) or not is_row(self.held, dimension, others):
            return [WRONGLY_TOLD]
        row = row_of(numbers)
        cycle = row_of(others)
        if not is_cut(self.held, dimension, row) or not is_cycle(self.held, dimension, cycle):
            return [NO_CUT]
        return [crossings(row, cycle) % 2]


class Reader:
    """Goes through the list of calls once, without changing it."""

    def __init__(self, calls):
        self.calls = calls
        self.place = 0

    def is_done(self):
        """Whether no call is left."""
        return self.place >= len(self.calls)

    def take_number(self):
        """The number that comes."""
        number = self.calls[self.place]
        self.place = self.place + 1
        return number

    def take_numbers(self):
        """The numbers that come behind how many they are."""
        many = self.take_number()
        start = self.place
        self.place = start + many
        return self.calls[start:start + many]

    def take_lists(self):
        """The lists that come behind how many they are."""
        many = self.take_number()
        lists = []
        while len(lists) < many:
            lists.append(self.take_numbers())
        return lists


def answer_of(line, call, numbers, lists):
    """What the line answers to the call of this number."""
    if call == SHAPE:
        return line.shape(lists)
    if call == COUNT:
        return line.count()
    if call == LISTED:
        return line.listed(numbers[0])
    if call == CUT:
        return line.cut(numbers[0], lists[0])
    if call == SAME:
        return line.same(numbers[0], lists[0], lists[1])
    if call == TIMES:
        return line.times(numbers[0], numbers[1], lists[0], lists[1])
    if call == FORM:
        return line.form()
    if call == LONGEST:
        return line.longest()
    if call == CROSSES:
        return line.crosses(numbers[0], lists[0], lists[1])
    raise NotImplementedError(f"there is no call {call}")


def answers(calls):
    """For each call, in order, how many numbers are answered, then these."""
    reader = Reader(calls)
    line = Line()
    answered = []
    while not reader.is_done():
        call = reader.take_number()
        numbers = reader.take_numbers()
        lists = reader.take_lists()
        answer = answer_of(line, call, numbers, lists)
        answered.append(len(answer))
        answered.extend(answer)
    return answered
