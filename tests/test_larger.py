"""Shapes with more simplices than the calls take, asked of the functions behind the calls.

They have what no shape of 70 simplices has, a product of three cuts (test_longest.py tells why), and products
of a cut of dimension 1 and one of dimension 2.
"""

import unittest
from itertools import combinations, permutations, product

from cutproducts.products import longest_product, most_without_products, product_of
from cutproducts.rows import independent_cuts, is_worth_nothing, most_independent, shape_of, with_faces


def multiplied(parts, others):
    """The simplices of the shape of all pairs of points, of two shapes given by simplices with rising corners."""
    found = set()
    for simplex in parts:
        for other in others:
            steps = ["first"] * (len(simplex) - 1) + ["second"] * (len(other) - 1)
            for path in set(permutations(steps)):
                place = [0, 0]
                corners = [(simplex[0], other[0])]
                for step in path:
                    place[0 if step == "first" else 1] += 1
                    corners.append((simplex[place[0]], other[place[1]]))
                found.add(tuple(corners))
    names = sorted({corner for corners in found for corner in corners})
    return sorted(tuple(names.index(corner) for corner in corners) for corners in found)


def projective_space():
    """The faces of the four-dimensional cross, each the same as the opposite one, as corners; chains as simplices."""
    def named(face):
        return max(face, tuple(-sign for sign in face))

    names = sorted({named(face) for face in product((-1, 0, 1), repeat=4) if any(face)})
    found = set()
    for signs in product((-1, 1), repeat=4):
        for order in permutations(range(4)):
            chain = [tuple(signs[k] if k in order[:many] else 0 for k in range(4)) for many in (1, 2, 3, 4)]
            found.add(tuple(sorted(names.index(named(face)) for face in chain)))
    return sorted(found)


RING = [(0, 1), (0, 2), (1, 2)]
SPHERE = list(combinations(range(4), 3))


class Larger(unittest.TestCase):
    def check(self, simplices, most, without, longest):
        held = shape_of(with_faces(simplices))
        self.assertEqual([most_independent(held, dimension) for dimension in range(4)], most)
        self.assertEqual([len(independent_cuts(held, dimension)) for dimension in range(4)], most)
        self.assertEqual(most_without_products(held), without)
        self.assertEqual(longest_product(held), longest)
        return held

    def test_three_different_cuts(self):
        rings = multiplied(multiplied(RING, RING), RING)
        self.assertEqual(len(rings), 162)
        self.check(rings, [1, 3, 3, 1], 0, 3)

    def test_three_times_the_same_cut(self):
        space = projective_space()
        self.assertEqual(len(space), 192)
        held = self.check(space, [1, 1, 1, 1], 0, 3)
        row = independent_cuts(held, 1)[0]
        squared = product_of(held, 1, 1, row, row)
        self.assertFalse(is_worth_nothing(held, 2, squared))
        self.assertFalse(is_worth_nothing(held, 3, product_of(held, 2, 1, squared, row)))

    def test_a_cut_of_dimension_one_and_one_of_dimension_two(self):
        held = self.check(multiplied(SPHERE, RING), [1, 1, 1, 1], 1, 2)
        row = independent_cuts(held, 1)[0]
        other = independent_cuts(held, 2)[0]
        self.assertFalse(is_worth_nothing(held, 3, product_of(held, 1, 2, row, other)))
        self.assertFalse(is_worth_nothing(held, 3, product_of(held, 2, 1, other, row)))

    def test_the_torus_again(self):
        self.check(multiplied(RING, RING), [1, 2, 1, 0], 0, 2)


if __name__ == "__main__":
    unittest.main()
