"""Points 30 and 31, and 2, 3 and 4 as they bear on these."""

import unittest

from ledhome.cubes import cube_home, halves_of
from ledhome.errors import NoThings, NoWeb
from ledhome.webs import cube_web
from samples import GREAT, Case, every_things, many_things, shuffled

SIDES = [1, 2, 3, 4, 5]

# Lists that are things of no cube at all, whatever its sides.
NO_CUBE = [
    [], [1], [-1], [GREAT], [0, 0], [1, 1], [0, 2], [2, 1], [-1, 0], [0, GREAT], [0, 1, 2, 4], [4, 3, 2, 1],
    [0, 1, 2, -1], [0, 0, 1, 2], [3, 2, 1, 1], [-GREAT, 1, 2, 3], [7] * 8, list(range(1, 9)), list(range(7)) + [8],
    list(range(31)) + [30], list(range(31)) + [32], list(range(31)) + [-1],
]

# Things, but of as many places as no cube has.
UNEVEN = [list(range(many)) for many in [3, 5, 6, 7, 9, 12, 15, 17, 24, 31, 33, 40, 48, 63, 64, 65, 128]]


def things_on_cubes():
    """Things in many orders on the cubes of one to five sides, all orders where they are few."""
    for sides in SIDES:
        many = 1 << sides
        if many <= 4:
            yield from every_things((many, []))
        yield from many_things(many)
        yield from ([place ^ bits for place in range(many)] for bits in range(many))
        yield from (shuffled(range(many), seed) for seed in range(100, 160))
        # A few exchanged, near and far.
        for bits in range(1, many):
            yield [{0: bits, bits: 0}.get(place, place) for place in range(many)]


class Point30(Case):
    def check_halves(self, things):
        marks = halves_of(things)
        self.assertIs(marks.__class__, list)
        self.assertEqual({mark.__class__ for mark in marks}, {int})
        self.assertEqual(len(marks), len(things))
        of_home = dict(zip(things, marks))
        for even in range(0, len(things), 2):
            self.assertEqual(sorted(marks[even:even + 2]), [0, 1])
            self.assertEqual(sorted([of_home[even], of_home[even + 1]]), [0, 1])

    def test_things_in_many_orders(self):
        for things in things_on_cubes():
            self.check_halves(things)

    def test_all_orders_of_eight_things(self):
        for things in every_things((8, []))[::13]:
            self.check_halves(things)

    def test_pairs_that_hang_together_in_a_long_way(self):
        # One way round through all pairs, and sixteen that are closed by themselves.
        home = list(range(32))
        self.check_halves(home[1:] + home[:1])
        self.check_halves([place ^ 1 for place in home])
        self.check_halves([place ^ 30 for place in home])

    def test_no_things_of_a_cube(self):
        for things in NO_CUBE + UNEVEN:
            self.check_refused(NoThings, halves_of, things)

    def test_the_cube_of_no_side(self):
        self.check_refused(NoWeb, halves_of, [0])

    def test_no_things_go_ahead_of_no_web(self):
        for things in [[1], [-1], [2], [GREAT]]:
            self.check_refused(NoThings, halves_of, things)

    def test_what_is_handed_in_stays_and_each_list_is_new(self):
        for things in things_on_cubes():
            self.told_by(halves_of, things)

    def test_what_was_handed_in_is_not_kept(self):
        things = [0, 2, 1, 3]
        told = halves_of(things)
        before = list(told)
        things[:] = [0, 1, 2, 3]
        self.assertEqual(told, before)
        self.check_halves(things)


class Point31(Case):
    def check_cube(self, sides, things):
        doing = cube_home(sides, things)
        self.check_leads_home(cube_web(sides), things, doing)
        self.assertEqual(len(doing), 2 * sides - 1)
        for at, exchanges in enumerate(doing):
            side = min(at, len(doing) - 1 - at)
            for one, other in exchanges:
                self.assertEqual(other - one, 1 << side)

    def test_no_side(self):
        self.check_list(cube_home(0, [0]), [])

    def test_one_side(self):
        self.check_list(cube_home(1, [0, 1]), [[]])
        self.check_list(cube_home(1, [1, 0]), [[(0, 1)]])

    def test_two_sides(self):
        for things in every_things(cube_web(2)):
            self.check_cube(2, things)

    def test_three_sides(self):
        for things in every_things(cube_web(3))[::13]:
            self.check_cube(3, things)

    def test_things_in_many_orders(self):
        for things in things_on_cubes():
            self.check_cube(len(things).bit_length() - 1, things)

    def test_things_at_home_are_as_many_rounds(self):
        for sides in SIDES:
            self.check_cube(sides, list(range(1 << sides)))

    def test_each_side_is_needed_by_itself(self):
        # Two things that differ in one side alone, at all places at which they can stand.
        for sides in SIDES:
            for one, other in cube_web(sides)[1]:
                things = [{one: other, other: one}.get(place, place) for place in range(1 << sides)]
                self.check_cube(sides, things)

    def test_no_web(self):
        for sides in [-1, -2, -5, 6, 7, 64, GREAT, -GREAT]:
            for things in [[0], [0, 1], list(range(32)), list(range(64))]:
                self.check_refused(NoWeb, cube_home, sides, things)

    def test_no_web_goes_ahead_of_no_things(self):
        for sides in [-1, 6, GREAT]:
            for things in [[], [1], [0, 0], list(range(33))]:
                self.check_refused(NoWeb, cube_home, sides, things)

    def test_no_things(self):
        for sides in [0] + SIDES:
            for things in NO_CUBE + UNEVEN:
                self.check_refused(NoThings, cube_home, sides, things)

    def test_things_of_another_cube(self):
        for sides in [0] + SIDES:
            for other in [0] + SIDES:
                if sides != other:
                    self.check_refused(NoThings, cube_home, sides, list(range(1 << other)))

    def test_what_is_handed_in_stays_and_each_list_is_new(self):
        self.told_by(cube_home, 0, [0])
        for things in things_on_cubes():
            self.told_by(cube_home, len(things).bit_length() - 1, things)

    def test_what_was_handed_in_is_not_kept(self):
        things = [1, 0]
        told = cube_home(1, things)
        things[:] = [0, 1]
        self.assertEqual(told, [[(0, 1)]])
        self.assertEqual(cube_home(1, things), [[]])


if __name__ == "__main__":
    unittest.main()
