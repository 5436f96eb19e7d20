"""Points 17 to 19, and 2, 3 and 4 as they bear on these."""

import unittest
from itertools import permutations, product

from ledhome.along import home_along, never_home, tree_of
from ledhome.errors import NeverHome, NoThings
from ledhome.webs import cube_web, line_web, tree_web, web_of
from samples import (
    BARE, CUBE, GREAT, GREAT_WEBS, GRID, LINE, NO_THINGS, ONE, PARTS, RING, TREE, WEBS, Case,
    distances, every_things, many_things, shuffled, small_webs, turned,
)


def web_of_parts(parts):
    """The web on which the places of each part stand in a line, in the order of the part."""
    pairs = [pair for part in parts for pair in zip(part, part[1:])]
    return web_of(sum(map(len, parts)), pairs)


def parts_of(web):
    """The places of each part that hangs together, rising."""
    far = distances(web)
    parts = [[k for k in range(web[0]) if far[place][k] is not None] for place in range(web[0])]
    return [part for place, part in enumerate(parts) if part[0] == place]


def things_in_parts(web):
    """Things of many orders that come home in their parts."""
    parts = parts_of(web)
    for seed in range(6):
        things = list(range(web[0]))
        for at, part in enumerate(parts):
            orders = [part[::-1], turned(part, 1), shuffled(part, seed + at)]
            for place, home in zip(part, orders[(seed + at) % 3]):
                things[place] = home
        yield things


class Point17(Case):
    def check_along(self, web, things):
        doing = home_along(web, things)
        self.check_leads_home(web, things, doing)
        greatest = max(map(len, parts_of(web)))
        self.assertLessEqual(2 * len(doing), greatest * (greatest - 1))
        along = {tuple(sorted(pair)) for pair in enumerate(tree_of(web)) if pair[1] is not None}
        for exchanges in doing:
            self.assertLessEqual(set(exchanges), along)

    def test_two_places(self):
        self.check_list(home_along(line_web(2), [1, 0]), [[(0, 1)]])
        self.check_list(home_along(line_web(2), [0, 1]), [])

    def test_things_at_home(self):
        for web in WEBS + GREAT_WEBS:
            self.check_list(home_along(web, list(range(web[0]))), [])

    def test_all_things_on_all_small_webs(self):
        for web in small_webs(4):
            far = distances(web)
            for things in every_things(web):
                if all(far[place][home] is not None for place, home in enumerate(things)):
                    self.check_along(web, things)
                else:
                    self.check_refused(NeverHome, home_along, web, things)

    def test_all_things_on_webs_of_every_kind(self):
        for web in [LINE, RING, GRID, TREE, tree_web([0] * 5), tree_web([0, 1, 1, 0, 4]), cube_web(2)]:
            for things in every_things(web):
                self.check_along(web, things)

    def test_great_webs_of_every_kind(self):
        for web in GREAT_WEBS + [CUBE, ONE]:
            for things in many_things(web[0]):
                self.check_along(web, things)

    def test_webs_in_parts(self):
        for parts in [
            [[0, 2, 6], [1, 5, 3], [4]], [[3, 1], [0, 2]], [[k, 39 - k] for k in range(20)],
            [list(range(k, 40, 4)) for k in range(4)], [list(range(0, 40, 2)), list(range(39, 0, -2))],
            [[0], list(range(1, 40))], [list(range(20))[::-1], list(range(20, 35)), list(range(35, 40))],
        ]:
            web = web_of_parts(parts)
            for things in things_in_parts(web):
                self.check_along(web, things)
        for things in things_in_parts(PARTS):
            self.check_along(PARTS, things)
        self.check_along(BARE, [0, 1, 2, 3])

    def test_the_greatest_part_bounds_all(self):
        # In twenty parts of two places all go at once.
        web = web_of_parts([[k, 39 - k] for k in range(20)])
        self.check_list(home_along(web, list(range(40))[::-1]), [[(k, 39 - k) for k in range(20)]])

    def test_things_that_never_come_home(self):
        self.check_refused(NeverHome, home_along, BARE, [1, 0, 2, 3])
        self.check_refused(NeverHome, home_along, BARE, [0, 1, 3, 2])
        self.check_refused(NeverHome, home_along, PARTS, [1, 0, 2, 3, 4, 5, 6])
        self.check_refused(NeverHome, home_along, PARTS, [0, 1, 2, 3, 6, 5, 4])
        for web in [web_of_parts([[k, 39 - k] for k in range(20)]), web_of_parts([[0], list(range(1, 40))])]:
            self.check_refused(NeverHome, home_along, web, turned(list(range(40)), 1))

    def test_no_things(self):
        for things in NO_THINGS:
            self.check_refused(NoThings, home_along, LINE, things)
            self.check_refused(NoThings, home_along, (5, []), things)
            self.check_refused(NoThings, home_along, (5, [(0, 1), (2, 4)]), things)
        self.check_refused(NoThings, home_along, ONE, [])
        self.check_refused(NoThings, home_along, ONE, [1])
        self.check_refused(NoThings, home_along, web_of(GREAT, [(0, 1)]), [1, 0])

    def test_what_is_handed_in_stays_and_each_list_is_new(self):
        for web in [LINE, RING, GRID, TREE, CUBE, ONE]:
            for things in many_things(web[0]):
                self.told_by(home_along, web, things)
        for things in things_in_parts(PARTS):
            self.told_by(home_along, PARTS, things)

    def test_what_was_handed_in_is_not_kept(self):
        web, things = web_of(4, [(0, 1), (1, 2), (2, 3)]), [1, 0, 2, 3]
        told = home_along(web, things)
        web[1].pop(0)
        self.assertEqual(told, [[(0, 1)]])
        self.check_refused(NeverHome, home_along, web, things)
        things[:] = [0, 1, 3, 2]
        self.check_list(home_along(web, things), [[(2, 3)]])


class Point18(Case):
    def test_trees(self):
        self.check_list(tree_of(ONE), [None])
        self.check_list(tree_of(LINE), [None, 0, 1, 2, 3])
        self.check_list(tree_of(RING), [None, 0, 1, 4, 0])
        self.check_list(tree_of(GRID), [None, 0, 1, 0, 1, 2])
        self.check_list(tree_of(TREE), [None, 0, 0, 1, 1, 2])
        self.check_list(tree_of(CUBE), [None, 0, 0, 1, 0, 1, 2, 3])
        self.check_list(tree_of(BARE), [None] * 4)
        self.check_list(tree_of(PARTS), [None, None, 0, 5, None, 1, 2])

    def test_a_parent_may_be_a_greater_place(self):
        self.check_list(tree_of(web_of(4, [(0, 3), (3, 2), (2, 1)])), [None, 2, 3, 0])
        self.check_list(tree_of(web_of(5, [(1, 4), (4, 2), (2, 3)])), [None, None, 4, 2, 1])

    def test_the_least_of_several_neighbours_that_are_nearer(self):
        self.check_list(tree_of(web_of(4, [(0, 2), (0, 1), (3, 2), (3, 1)])), [None, 0, 0, 1])
        self.check_list(tree_of(web_of(5, [(0, 4), (0, 3), (0, 2), (1, 4), (1, 3), (1, 2)])), [None, 2, 0, 0, 0])

    def check_tree(self, web):
        far = distances(web)
        due = []
        for place in range(web[0]):
            least = min(k for k in range(web[0]) if far[place][k] is not None)
            nearer = [k for k in range(web[0]) if far[place][k] == 1 and far[least][k] == far[least][place] - 1]
            due.append(nearer[0] if nearer else None)
        self.check_list(tree_of(web), due)
        self.assertEqual([k for k, parent in enumerate(due) if parent is None], [part[0] for part in parts_of(web)])

    def test_all_small_webs(self):
        for web in small_webs(5):
            self.check_tree(web)

    def test_great_webs(self):
        for web in GREAT_WEBS:
            self.check_tree(web)
        self.check_tree(web_of_parts([[k, 39 - k] for k in range(20)]))
        self.check_tree(web_of(40, [(k, k + 3) for k in range(37)] + [(k, k + 9) for k in range(31)]))

    def test_trees_of_parents(self):
        for parents in product(*[range(place) for place in range(1, 6)]):
            self.check_list(tree_of(tree_web(list(parents))), [None] + list(parents))

    def test_what_is_handed_in_stays_and_each_list_is_new(self):
        for web in WEBS:
            self.told_by(tree_of, web)

    def test_what_was_handed_in_is_not_kept(self):
        web = line_web(3)
        self.check_list(tree_of(web), [None, 0, 1])
        web[1].pop()
        self.check_list(tree_of(web), [None, 0, None])


class Point19(Case):
    def test_the_least_place(self):
        self.assertIsNone(never_home(LINE, [4, 3, 2, 1, 0]))
        self.assertIsNone(never_home(ONE, [0]))
        self.assertIsNone(never_home(BARE, [0, 1, 2, 3]))
        self.assertIsNone(never_home(PARTS, [6, 5, 0, 1, 4, 3, 2]))
        self.assertEqual(never_home(BARE, [1, 0, 2, 3]), 0)
        self.assertEqual(never_home(BARE, [0, 1, 3, 2]), 2)
        self.assertEqual(never_home(PARTS, [6, 4, 0, 1, 5, 3, 2]), 1)
        self.assertEqual(never_home(PARTS, [2, 3, 0, 1, 6, 5, 4]), 4)

    def test_the_first_place_is_told_as_a_number(self):
        told = never_home(BARE, [1, 0, 2, 3])
        self.assertIs(told.__class__, int)

    def test_all_things_on_all_small_webs(self):
        for web in small_webs(4):
            far = distances(web)
            for things in every_things(web):
                never = [place for place, home in enumerate(things) if far[place][home] is None]
                self.assertEqual(never_home(web, things), never[0] if never else None)

    def test_great_webs(self):
        for web in GREAT_WEBS:
            for things in many_things(web[0]):
                self.assertIsNone(never_home(web, things))
        web = web_of(40, [(k, k + 1) for k in range(39) if k != 36])
        self.assertIsNone(never_home(web, list(range(37))[::-1] + [39, 38, 37]))
        self.assertEqual(never_home(web, list(range(36)) + [37, 36, 39, 38]), 36)

    def test_no_things(self):
        for things in NO_THINGS:
            self.check_refused(NoThings, never_home, LINE, things)
            self.check_refused(NoThings, never_home, (5, []), things)
        self.check_refused(NoThings, never_home, web_of(GREAT, []), [0])

    def test_what_is_handed_in_stays_and_is_not_kept(self):
        web, things = line_web(3), [2, 1, 0]
        self.assertIsNone(self.told_by(never_home, web, things))
        web[1].pop()
        self.assertEqual(self.told_by(never_home, web, things), 0)
        things[:] = [1, 0, 2]
        self.assertIsNone(never_home(web, things))


class Point4(Case):
    def test_just_one_is_told(self):
        parts = [[(0, 1), (2, 3), (3, 4)], [(0, 4), (1, 3)], [(0, 2), (1, 4), (2, 4)], []]
        for web in [(5, pairs) for pairs in parts] + [LINE, TREE]:
            for things in map(list, permutations(range(web[0]))):
                if never_home(web, things) is None:
                    self.check_leads_home(web, things, home_along(web, things))
                else:
                    self.check_refused(NeverHome, home_along, web, things)


if __name__ == "__main__":
    unittest.main()
