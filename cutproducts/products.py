"""Products of rows, and what those of a whole shape's cuts are worth.

It's enough to multiply independent cuts, as many as there can be: each cut is
worth the same as some of them added, a product of sums is the sum of the
products, and what it's worth hangs on what its cuts are worth alone.
"""

from cutproducts.rows import HIGHEST_DIMENSION
from cutproducts.rows import basis_of
from cutproducts.rows import basis_of_nothing
from cutproducts.rows import independent_cuts
from cutproducts.rows import numbers_of
from cutproducts.rows import reduced
from cutproducts.rows import row_of
from cutproducts.rows import simplices_of


def members_of(shape, dimension, row):
    """The simplices of the row, as a dict's keys."""
    simplices = simplices_of(shape, dimension)
    members = {}
    for number in numbers_of(row):
        members[simplices[number]] = True
    return members


def product_of(shape, p, q, row, other):
    """The product of a row of dimension p and another one of dimension q."""
    fronts = members_of(shape, p, row)
    backs = members_of(shape, q, other)
    above = simplices_of(shape, p + q)
    found = []
    for number in range(len(above)):
        if above[number][:p + 1] in fronts and above[number][p:] in backs:
            found.append(number)
    return row_of(found)


def products_abreast(shape, cut, others, width):
    """The products of the cut with all the others, of dimension 1, in one number: width bits for each."""
    abreast = 0
    for other in others:
        abreast = (abreast << width) | product_of(shape, 1, 1, cut, other)
    return abreast


def nothing_abreast(shape, many, width):
    """Rows of many times width bits whose sums are just those with what's worth nothing at each place."""
    nothing = basis_of_nothing(shape, 2)
    abreast = []
    for place in range(many):
        abreast.extend([row << (place * width) for row in nothing.values()])
    return abreast


def most_without_products(shape):
    """The most independent cuts of dimension 1 whose products with all of these are worth nothing."""
    cuts = independent_cuts(shape, 1)
    width = len(simplices_of(shape, 2))
    products = [products_abreast(shape, cut, cuts, width) for cut in cuts]
    nothing = nothing_abreast(shape, len(cuts), width)
    # Sums of cuts have the sums of their products, so that each product that's independent takes one off.
    worth_something = len(basis_of(nothing + products)) - len(nothing)
    return len(cuts) - worth_something


def factors_of(shape):
    """Independent cuts of each dimension from 1 on, as many as there can be, each behind its dimension."""
    factors = []
    for dimension in range(1, HIGHEST_DIMENSION + 1):
        factors.extend([(dimension, cut) for cut in independent_cuts(shape, dimension)])
    return factors


def nothing_by_dimension(shape):
    """For each dimension a basis of the cuts that are worth nothing."""
    nothing = {}
    for dimension in range(HIGHEST_DIMENSION + 1):
        nothing[dimension] = basis_of_nothing(shape, dimension)
    return nothing


def products_worth_something(shape, firsts, factors, nothing):
    """All products of the firsts with the factors that aren't worth nothing, each behind its dimension."""
    found = []
    for first in firsts:
        # Above the highest dimension there are no simplices, so that each product is worth nothing there.
        for factor in [pair for pair in factors if first[0] + pair[0] <= HIGHEST_DIMENSION]:
            dimension = first[0] + factor[0]
            product = product_of(shape, first[0], factor[0], first[1], factor[1])
            if reduced(product, nothing[dimension]) > 0:
                found.append((dimension, product))
    return found


def longest_product(shape):
    """The most cuts of dimensions from 1 on whose product isn't worth nothing."""
    factors = factors_of(shape)
    nothing = nothing_by_dimension(shape)
    products = factors
    many = 0
    # What's worth nothing stays so by any further factor; each factor raises the dimension, so that it ends.
    while len(products) > 0:
        many = many + 1
        products = products_worth_something(shape, products, factors, nothing)
    return many
