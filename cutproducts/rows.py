"""Simplices, shapes and rows.

A simplex is the tuple of its rising corners. A shape is a dict that holds,
for each dimension from 0 to 3, the simplices in order. A row is kept as one
whole number whose bit k tells whether simplex number k is in it: then ^ adds
two rows by twos, and 0 is the empty row.
"""

MOST_CORNERS = 4
HIGHEST_CORNER = 9
HIGHEST_DIMENSION = 3


def is_simplex(corners):
    """Whether these numbers, in whatever order, tell a simplex."""
    if len(corners) < 1 or len(corners) > MOST_CORNERS:
        return False
    if min(corners) < 0 or max(corners) > HIGHEST_CORNER:
        return False
    return len(set(corners)) == len(corners)


def faces_of(corners):
    """All faces of the simplex with these corners, it too."""
    faces = [()]
    for corner in sorted(corners):
        faces = faces + [face + (corner,) for face in faces]
    return [face for face in faces if len(face) > 0]


def with_faces(simplices):
    """The simplices and all their faces, each once; those of one dimension are in order."""
    found = {}
    for corners in simplices:
        for face in faces_of(corners):
            found[face] = True
    return sorted(found)


def shape_of(faces):
    """The shape of what with_faces gave."""
    shape = {}
    for dimension in range(HIGHEST_DIMENSION + 1):
        shape[dimension] = [face for face in faces if len(face) == dimension + 1]
    return shape


def simplices_of(shape, dimension):
    """The dimension's simplices, in order; below 0 and above 3 there are none."""
    return shape.get(dimension, [])


def is_row(shape, dimension, numbers):
    """Whether the numbers rise and are all simplices of a dimension up to 3."""
    if dimension > HIGHEST_DIMENSION:
        return False
    many = len(simplices_of(shape, dimension))
    last = -1
    for number in numbers:
        if number <= last or number >= many:
            return False
        last = number
    return True


def row_of(numbers):
    """The row of these different numbers."""
    row = 0
    for number in numbers:
        row = row | (1 << number)
    return row


def numbers_of(row):
    """The numbers that are in the row, rising."""
    return [number for number in range(row.bit_length()) if (row >> number) % 2 == 1]


def has_face(simplex, face):
    """Whether all corners of the face are corners of the simplex."""
    return all([corner in simplex for corner in face])


def rounds(shape, dimension):
    """For each simplex of the dimension, in order, the row round it alone."""
    above = simplices_of(shape, dimension + 1)
    alone = []
    for face in simplices_of(shape, dimension):
        holders = [number for number in range(len(above)) if has_face(above[number], face)]
        alone.append(row_of(holders))
    return alone


def round_of(shape, dimension, row):
    """The row round a row of the dimension."""
    alone = rounds(shape, dimension)
    total = 0
    # By twos a simplex stays just if an odd number of its faces brought it in.
    for number in numbers_of(row):
        total = total ^ alone[number]
    return total


def is_cut(shape, dimension, row):
    """Whether nothing is round the row."""
    return round_of(shape, dimension, row) == 0


def reduced(row, basis):
    """The row with rows of the basis added until its highest bit leads none of them."""
    rest = row
    # The highest bit falls with each step; of the empty row it is 0, which no basis has.
    while rest.bit_length() in basis:
        rest = rest ^ basis[rest.bit_length()]
    return rest


def take_in(row, basis):
    """Put what the row has beyond sums of the basis into the basis; whether there is anything."""
    rest = reduced(row, basis)
    if rest == 0:
        return False
    basis[rest.bit_length()] = rest
    return True


def basis_of(rows):
    """Rows with the same sums as these, each under its highest bit, which no other has highest."""
    basis = {}
    for row in rows:
        take_in(row, basis)
    return basis


def basis_of_nothing(shape, dimension):
    """A basis of the dimension's cuts that are worth nothing."""
    # Below dimension 0 there are no simplices, so that only the empty cut is left there, as asked.
    return basis_of(rounds(shape, dimension - 1))


def is_worth_nothing(shape, dimension, row):
    """Whether the cut is what's round some row of one dimension less."""
    return reduced(row, basis_of_nothing(shape, dimension)) == 0


def most_independent(shape, dimension):
    """How many cuts of the dimension are independent at the most."""
    many = len(simplices_of(shape, dimension))
    # Each independent row of one dimension more that's round something takes one off all rows to leave the
    # cuts, and each independent cut that's worth nothing takes one off these.
    no_cuts = len(basis_of(rounds(shape, dimension)))
    worth_nothing = len(basis_of_nothing(shape, dimension))
    return many - no_cuts - worth_nothing


def spanning_cuts(shape, dimension):
    """Cuts of the dimension whose sums are all its cuts."""
    alone = rounds(shape, dimension)
    many = len(alone)
    # The row round a simplex stands above the lowest bits, which tell the simplices: a sum with none but
    # these has nothing round it.
    told = [(alone[number] << many) | (1 << number) for number in range(many)]
    return [row for row in basis_of(told).values() if row.bit_length() <= many]


def independent_cuts(shape, dimension):
    """As many independent cuts of the dimension as there can be."""
    basis = basis_of_nothing(shape, dimension)
    found = []
    for cut in spanning_cuts(shape, dimension):
        if take_in(cut, basis):
            found.append(cut)
    return found


def crossings(row, other):
    """In how many simplices the two rows cross."""
    return len(numbers_of(row & other))


def is_cycle(shape, dimension, row):
    """Whether an even number of the row's simplices meet in each simplex of one dimension less."""
    # The row round a simplex alone is that of all that have it as a face; below dimension 0 there are none.
    return all([crossings(row, meeting) % 2 == 0 for meeting in rounds(shape, dimension - 1)])
