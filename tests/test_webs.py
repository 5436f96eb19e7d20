"""Points 5 to 8, and 2 and 3 as they bear on these."""

import copy
import unittest
from itertools import product

from ledhome.errors import NoPlace, NoWeb
from ledhome.webs import (
    cube_web, grid_web, hang_together, how_far, line_web, neighbours, ring_web, tree_web, web_of,
)
from samples import BARE, CUBE, GREAT, GRID, LINE, ONE, PARTS, RING, TREE, WEBS, Case, distances, small_webs


class WebCase(Case):
    def check_web(self, told, many, pairs):
        """A web is a tuple of a number and a list of tuples, and these are just its pairs."""
        self.assertEqual(told, (many, pairs))
        self.assertIs(told.__class__, tuple)
        self.assertIs(told[0].__class__, int)
        self.assertIs(told[1].__class__, list)
        for pair in told[1]:
            self.assertIs(pair.__class__, tuple)
            self.assertEqual([place.__class__ for place in pair], [int, int])


class Point5(WebCase):
    def test_pairs_in_order(self):
        for many, pairs in WEBS:
            self.check_web(web_of(many, pairs), many, pairs)

    def test_pairs_in_any_order_either_way_about(self):
        for many, pairs in WEBS:
            self.check_web(web_of(many, pairs[::-1]), many, pairs)
            self.check_web(web_of(many, [(b, a) for a, b in pairs]), many, pairs)
            self.check_web(web_of(many, pairs[1::2] + [(b, a) for a, b in pairs[::2]]), many, pairs)

    def test_pairs_several_times_are_told_once(self):
        self.check_web(web_of(3, [(2, 1), (0, 1), (1, 2), (1, 0), (0, 1), (2, 1)]), 3, [(0, 1), (1, 2)])
        for many, pairs in WEBS:
            self.check_web(web_of(many, pairs * 3 + [(b, a) for a, b in pairs]), many, pairs)

    def test_one_place_and_no_pairs(self):
        self.check_web(web_of(1, []), 1, [])
        self.check_web(web_of(4, []), 4, [])

    def test_forty_places_all_of_them_neighbours(self):
        pairs = [(a, b) for a in range(40) for b in range(a + 1, 40)]
        handed = [(b, a) for a, b in reversed(pairs)]
        self.check_web(web_of(40, handed), 40, pairs)
        self.check_web(web_of(40, handed + pairs[:220]), 40, pairs)

    def test_numbers_of_thirty_figures(self):
        self.check_web(web_of(GREAT, [(GREAT - 1, 3)]), GREAT, [(3, GREAT - 1)])

    def test_many_below_1(self):
        for many in [0, -1, -GREAT]:
            self.check_refused(NoWeb, web_of, many, [])
            self.check_refused(NoWeb, web_of, many, [(0, 1)])

    def test_a_place_that_is_none(self):
        for none in [-1, -2, 3, 4, GREAT, -GREAT]:
            for pair in [(none, 1), (1, none)]:
                self.check_refused(NoWeb, web_of, 3, [pair])
                self.check_refused(NoWeb, web_of, 3, [(0, 1), pair, (1, 2)])
                self.check_refused(NoWeb, web_of, 3, [(0, 1), (1, 2), pair])
        self.check_refused(NoWeb, web_of, 1, [(0, 1)])

    def test_a_pair_of_one_place(self):
        for place in [0, 1, 2, 3, -1]:
            self.check_refused(NoWeb, web_of, 3, [(0, 1), (place, place)])

    def test_the_list_handed_in_stays_and_is_not_kept(self):
        handed = [(2, 1), (1, 0), (1, 2)]
        told = web_of(3, handed)
        self.assertEqual(handed, [(2, 1), (1, 0), (1, 2)])
        handed.append((0, 2))
        self.check_web(told, 3, [(0, 1), (1, 2)])
        told[1].append((0, 2))
        self.check_web(web_of(3, handed[:3]), 3, [(0, 1), (1, 2)])
        sorted_pairs = [(0, 1), (1, 2)]
        told = web_of(3, sorted_pairs)
        self.assertIsNot(told[1], sorted_pairs)
        self.assertIsNot(web_of(3, sorted_pairs)[1], told[1])


class Point6Lines(WebCase):
    def test_lines(self):
        self.check_web(line_web(1), 1, [])
        self.check_web(line_web(2), 2, [(0, 1)])
        self.check_web(line_web(5), *LINE)
        for many in range(1, 41):
            self.check_web(line_web(many), many, [(k, k + 1) for k in range(many - 1)])

    def test_rings(self):
        self.check_web(ring_web(1), 1, [])
        self.check_web(ring_web(2), 2, [(0, 1)])
        self.check_web(ring_web(3), 3, [(0, 1), (0, 2), (1, 2)])
        self.check_web(ring_web(5), *RING)
        for many in range(3, 41):
            pairs = sorted([(k, k + 1) for k in range(many - 1)] + [(0, many - 1)])
            self.check_web(ring_web(many), many, pairs)

    def test_refused(self):
        for many in [0, -1, -2, -GREAT]:
            self.check_refused(NoWeb, line_web, many)
            self.check_refused(NoWeb, ring_web, many)


class Point6Grids(WebCase):
    def test_grids(self):
        self.check_web(grid_web(2, 3), *GRID)
        self.check_web(grid_web(3, 2), 6, [(0, 1), (0, 2), (1, 3), (2, 3), (2, 4), (3, 5), (4, 5)])
        self.check_web(grid_web(1, 1), 1, [])
        self.check_web(grid_web(1, 5), *LINE)
        self.check_web(grid_web(5, 1), *LINE)

    def test_places_beside_one_another_in_a_row_or_a_column_are_neighbours(self):
        for rows, columns in product(range(1, 41), repeat=2):
            if rows * columns > 40:
                continue
            spots = list(product(range(rows), range(columns)))
            pairs = [
                (r * columns + c, s * columns + d)
                for (r, c), (s, d) in product(spots, repeat=2)
                if (r == s and d == c + 1) or (c == d and s == r + 1)
            ]
            self.check_web(grid_web(rows, columns), rows * columns, sorted(pairs))

    def test_refused(self):
        for wrong in [0, -1, -3, -GREAT]:
            for right in [1, 3, GREAT]:
                self.check_refused(NoWeb, grid_web, wrong, right)
                self.check_refused(NoWeb, grid_web, right, wrong)
            for other in [0, -1, -2, -GREAT]:
                self.check_refused(NoWeb, grid_web, wrong, other)


class Point6Trees(WebCase):
    def test_trees(self):
        self.check_web(tree_web([]), 1, [])
        self.check_web(tree_web([0]), 2, [(0, 1)])
        self.check_web(tree_web([0, 0, 1, 1, 2]), *TREE)
        self.check_web(tree_web([0, 0, 0]), 4, [(0, 1), (0, 2), (0, 3)])
        self.check_web(tree_web([0, 1, 1, 0]), 5, [(0, 1), (0, 4), (1, 2), (1, 3)])
        self.check_web(tree_web(list(range(39))), *line_web(40))

    def test_all_small_trees(self):
        for many in range(1, 6):
            for parents in product(*[range(place) for place in range(1, many)]):
                pairs = sorted((parent, k + 1) for k, parent in enumerate(parents))
                self.check_web(tree_web(list(parents)), many, pairs)

    def test_refused(self):
        for parents in [
            [1], [-1], [2], [GREAT], [-GREAT], [0, 2], [0, 3], [0, -1], [0, 0, 3], [0, 2, 0],
            [1, 0], [0, 1, 2, -1], [0, 1, 2, 4], [0, 0, GREAT, 0],
            # A greater place that there is: the pairs would make a web.
            [2, 0], [3, 0, 0], [0, 3, 0], [2, 0, 2],
        ]:
            self.check_refused(NoWeb, tree_web, parents)

    def test_the_list_handed_in_stays_and_is_not_kept(self):
        parents = [0, 0, 1]
        told = tree_web(parents)
        self.assertEqual(parents, [0, 0, 1])
        parents[2] = 0
        self.check_web(told, 4, [(0, 1), (0, 2), (1, 3)])


class Point6Cubes(WebCase):
    def test_cubes(self):
        self.check_web(cube_web(0), 1, [])
        self.check_web(cube_web(1), 2, [(0, 1)])
        self.check_web(cube_web(2), 4, [(0, 1), (0, 2), (1, 3), (2, 3)])
        self.check_web(cube_web(3), *CUBE)

    def test_neighbours_differ_in_one_bit(self):
        for sides in range(6):
            many = 2 ** sides
            pairs = [(a, b) for a in range(many) for b in range(a, many) if bin(a ^ b).count("1") == 1]
            self.check_web(cube_web(sides), many, pairs)

    def test_refused(self):
        for sides in [-1, -2, 6, 7, GREAT, -GREAT]:
            self.check_refused(NoWeb, cube_web, sides)


class Point6Lists(WebCase):
    def test_each_list_that_is_told_is_new(self):
        for function, handed in [
            (line_web, [4]), (ring_web, [4]), (grid_web, [2, 2]), (tree_web, [[0, 0]]), (cube_web, [2]),
        ]:
            many, pairs = function(*handed)
            before = list(pairs)
            pairs.clear()
            self.check_web(function(*handed), many, before)


class Point7(WebCase):
    def test_neighbours(self):
        self.assertEqual(neighbours(LINE, 0), [1])
        self.assertEqual(neighbours(LINE, 2), [1, 3])
        self.assertEqual(neighbours(LINE, 4), [3])
        self.assertEqual(neighbours(RING, 0), [1, 4])
        self.assertEqual(neighbours(GRID, 4), [1, 3, 5])
        self.assertEqual(neighbours(TREE, 1), [0, 3, 4])
        self.assertEqual(neighbours(CUBE, 5), [1, 4, 7])
        self.assertEqual(neighbours(PARTS, 5), [1, 3])
        self.assertEqual(neighbours(PARTS, 4), [])
        self.assertEqual(neighbours(BARE, 3), [])
        self.assertEqual(neighbours(ONE, 0), [])

    def test_hang_together(self):
        for web in [LINE, RING, GRID, TREE, CUBE, ONE]:
            for place in range(web[0]):
                self.assertEqual(hang_together(web, place), list(range(web[0])))
        for part in [[0, 2, 6], [1, 3, 5], [4]]:
            for place in part:
                self.assertEqual(hang_together(PARTS, place), part)
        for place in range(4):
            self.assertEqual(hang_together(BARE, place), [place])

    def test_all_small_webs(self):
        for web in small_webs(5):
            far = distances(web)
            for place in range(web[0]):
                self.assertEqual(neighbours(web, place), [k for k in range(web[0]) if far[place][k] == 1])
                part = [k for k in range(web[0]) if far[place][k] is not None]
                self.assertEqual(hang_together(web, place), part)

    def test_forty_places(self):
        line = line_web(40)
        self.assertEqual(neighbours(line, 39), [38])
        self.assertEqual(hang_together(line, 17), list(range(40)))
        full = web_of(40, [(a, b) for a in range(40) for b in range(a)])
        self.assertEqual(neighbours(full, 20), [k for k in range(40) if k != 20])
        self.assertEqual(hang_together(full, 39), list(range(40)))

    def test_a_greater_web_that_was_told(self):
        web = web_of(GREAT, [(5, GREAT - 1), (5, 2)])
        self.assertEqual(neighbours(web, 5), [2, GREAT - 1])
        self.assertEqual(neighbours(web, 6), [])
        self.assertEqual(hang_together(web, 2), [2, 5, GREAT - 1])
        self.assertEqual(how_far(web, GREAT - 1, 2), 2)
        self.check_refused(NoPlace, neighbours, web, GREAT)

    def test_no_place(self):
        for web in WEBS:
            for none in [-1, -2, web[0], web[0] + 1, GREAT, -GREAT]:
                self.check_refused(NoPlace, neighbours, web, none)
                self.check_refused(NoPlace, hang_together, web, none)

    def test_what_is_handed_in_stays_and_each_list_is_new(self):
        for web in WEBS:
            before = copy.deepcopy(web)
            for function in [neighbours, hang_together]:
                first = function(web, 0)
                kept = list(first)
                first.append(99)
                self.assertEqual(web, before)
                self.assertEqual(function(web, 0), kept)

    def test_a_web_that_was_handed_in_is_not_kept(self):
        web = line_web(3)
        self.assertEqual(neighbours(web, 1), [0, 2])
        self.assertEqual(hang_together(web, 0), [0, 1, 2])
        self.assertEqual(how_far(web, 0, 2), 2)
        web[1].pop()
        self.assertEqual(neighbours(web, 1), [0])
        self.assertEqual(hang_together(web, 0), [0, 1])
        self.assertIsNone(how_far(web, 0, 2))


class Point8(WebCase):
    def test_how_far(self):
        self.assertEqual(how_far(LINE, 0, 4), 4)
        self.assertEqual(how_far(LINE, 4, 1), 3)
        self.assertEqual(how_far(RING, 0, 3), 2)
        self.assertEqual(how_far(GRID, 0, 5), 3)
        self.assertEqual(how_far(TREE, 3, 5), 4)
        self.assertEqual(how_far(CUBE, 0, 7), 3)
        self.assertEqual(how_far(PARTS, 0, 6), 2)
        self.assertIsNone(how_far(PARTS, 0, 1))
        self.assertIsNone(how_far(BARE, 3, 0))
        self.assertEqual(how_far(BARE, 3, 3), 0)
        self.assertEqual(how_far(ONE, 0, 0), 0)

    def test_all_small_webs(self):
        for web in small_webs(5):
            far = distances(web)
            for one, other in product(range(web[0]), repeat=2):
                self.assertEqual(how_far(web, one, other), far[one][other])

    def test_far_on_the_greatest_kinds(self):
        self.assertEqual(how_far(line_web(40), 39, 0), 39)
        self.assertEqual(how_far(ring_web(40), 1, 21), 20)
        self.assertEqual(how_far(ring_web(39), 1, 21), 19)
        self.assertEqual(how_far(grid_web(5, 8), 0, 39), 11)
        cube = cube_web(5)
        for one, other in product(range(32), repeat=2):
            self.assertEqual(how_far(cube, one, other), bin(one ^ other).count("1"))

    def test_no_place(self):
        for web in WEBS:
            for none in [-1, -2, web[0], web[0] + 1, GREAT, -GREAT]:
                self.check_refused(NoPlace, how_far, web, none, 0)
                self.check_refused(NoPlace, how_far, web, 0, none)
                self.check_refused(NoPlace, how_far, web, none, none)

    def test_what_is_handed_in_stays(self):
        for web in WEBS:
            before = copy.deepcopy(web)
            how_far(web, 0, web[0] - 1)
            self.assertEqual(web, before)


if __name__ == "__main__":
    unittest.main()
