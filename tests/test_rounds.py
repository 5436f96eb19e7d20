"""Points 9 to 12, and 2 and 3 as they bear on these."""

import copy
import unittest
from itertools import product

from ledhome.errors import NoRound, NoThings
from ledhome.rounds import behind_doing, behind_round, far_from_home, leads_home, turned_about
from ledhome.webs import cube_web, line_web, ring_web, web_of
from samples import (
    BARE, CUBE, GREAT, GRID, LINE, NO_ROUNDS, NO_THINGS, ONE, PARTS, RING, TREE, WEBS, Case,
    distances, every_round, every_things, moved, small_webs, turned,
)

# For each web of the samples a doing of several rounds, an empty one among them.
DOINGS = [
    (LINE, [[(0, 1), (2, 3)], [(1, 2), (3, 4)], [], [(0, 1)]]),
    (RING, [[(0, 4), (1, 2)], [(0, 1), (3, 4)], [], [(2, 3)]]),
    (GRID, [[(0, 3), (1, 4), (2, 5)], [], [(0, 1), (3, 4)]]),
    (TREE, [[(0, 1), (2, 5)], [], [(0, 2), (1, 4)]]),
    (CUBE, [[(0, 4), (1, 5), (2, 6), (3, 7)], [(0, 1), (2, 3), (4, 6)], []]),
    (PARTS, [[(0, 2), (1, 5)], [], [(2, 6), (3, 5)]]),
    (BARE, [[], []]),
    (ONE, [[]]),
]


class Point9(Case):
    def test_things_behind_a_round(self):
        self.check_list(behind_round(LINE, [4, 2, 0, 1, 3], [(0, 1), (3, 4)]), [2, 4, 0, 3, 1])
        self.check_list(behind_round(LINE, [4, 2, 0, 1, 3], [(1, 2)]), [4, 0, 2, 1, 3])
        self.check_list(behind_round(RING, [0, 1, 2, 3, 4], [(0, 4), (1, 2)]), [4, 2, 1, 3, 0])
        self.check_list(behind_round(ONE, [0], []), [0])

    def test_the_empty_round(self):
        for web in WEBS:
            things = turned(list(range(web[0])), 1)
            self.check_list(behind_round(web, things, []), things)

    def test_all_rounds_of_small_webs(self):
        for web in small_webs(4):
            for things, exchanges in product(every_things(web), every_round(web)):
                self.check_list(behind_round(web, things, exchanges), moved(things, exchanges))

    def test_things_that_are_none(self):
        for things in NO_THINGS:
            self.check_refused(NoThings, behind_round, LINE, things, [])
            self.check_refused(NoThings, behind_round, LINE, things, [(0, 1)])
        self.check_refused(NoThings, behind_round, ONE, [], [])
        self.check_refused(NoThings, behind_round, ONE, [1], [])
        self.check_refused(NoThings, behind_round, ONE, [0, 0], [])

    def test_a_round_that_is_none(self):
        for exchanges in NO_ROUNDS:
            self.check_refused(NoRound, behind_round, LINE, [4, 3, 2, 1, 0], exchanges)
        self.check_refused(NoRound, behind_round, BARE, [0, 1, 2, 3], [(0, 1)])
        self.check_refused(NoRound, behind_round, ONE, [0], [(0, 0)])
        self.check_refused(NoRound, behind_round, PARTS, list(range(7)), [(0, 1)])

    def test_just_the_rounds_of_a_web_are_let_by(self):
        pairs = list(product(range(-1, 4), repeat=2))
        lists = [[]] + [[pair] for pair in pairs] + [list(two) for two in product(pairs, repeat=2)]
        for web in small_webs(3):
            rounds = every_round(web)
            things = list(range(web[0]))
            for exchanges in lists:
                if exchanges in rounds:
                    self.check_list(behind_round(web, things, exchanges), moved(things, exchanges))
                else:
                    self.check_refused(NoRound, behind_round, web, things, exchanges)

    def test_no_things_goes_ahead_of_no_round(self):
        for things, exchanges in product(NO_THINGS, NO_ROUNDS):
            self.check_refused(NoThings, behind_round, LINE, things, exchanges)

    def test_forty_places(self):
        web = line_web(40)
        exchanges = [(k, k + 1) for k in range(0, 40, 2)]
        behind = behind_round(web, list(range(40)), exchanges)
        self.check_list(behind, [k ^ 1 for k in range(40)])
        self.check_refused(NoRound, behind_round, web, list(range(40)), exchanges + [(39, 40)])

    def test_a_greater_web_that_was_told(self):
        web = web_of(GREAT, [(0, 1)])
        self.check_refused(NoThings, behind_round, web, [1, 0], [(0, 1)])
        self.check_refused(NoThings, far_from_home, web, [0])
        self.check_refused(NoThings, leads_home, web, [], [])

    def test_what_is_handed_in_stays_and_is_not_kept(self):
        web, things, exchanges = line_web(3), [2, 1, 0], [(0, 1)]
        told = behind_round(web, things, exchanges)
        self.assertEqual((web, things, exchanges), (line_web(3), [2, 1, 0], [(0, 1)]))
        things[0] = 7
        exchanges.append((1, 2))
        self.check_list(told, [1, 2, 0])
        told[0] = 9
        self.check_list(behind_round(web, [2, 1, 0], [(0, 1)]), [1, 2, 0])
        things = [2, 1, 0]
        behind_round(web, things, []).append(9)
        self.assertEqual(things, [2, 1, 0])


class Point10Behind(Case):
    def test_things_behind_a_doing(self):
        self.check_list(behind_doing(LINE, [1, 0, 2, 4, 3], [[(0, 1), (3, 4)], [(1, 2)]]), [0, 2, 1, 3, 4])
        for web, doing in DOINGS:
            things = turned(list(range(web[0])), 1)
            due = things
            for exchanges in doing:
                due = moved(due, exchanges)
            self.check_list(behind_doing(web, things, doing), due)

    def test_a_doing_of_no_rounds(self):
        for web in WEBS:
            things = list(range(web[0]))[::-1]
            self.check_list(behind_doing(web, things, []), things)

    def test_all_doings_of_two_rounds_on_small_webs(self):
        for web in small_webs(3):
            for things, one, other in product(every_things(web), every_round(web), every_round(web)):
                due = moved(moved(things, one), other)
                self.check_list(behind_doing(web, things, [one, other]), due)

    def test_very_many_rounds(self):
        # On a ring of three places each two of these rounds lead each thing on by one place.
        web = ring_web(3)
        self.check_list(behind_doing(web, [0, 1, 2], [[(0, 1)], [(1, 2)]] * 149 + [[(0, 1)], []]), [0, 2, 1])
        self.check_list(behind_doing(web, [0, 1, 2], [[(0, 1)], [(1, 2)]] * 150), [0, 1, 2])
        line = line_web(40)
        looks = [[(k, k + 1) for k in range(at, 39, 2)] for at in (0, 1)]
        self.check_list(behind_doing(line, list(range(40)), looks * 20), list(range(39, -1, -1)))
        self.check_list(behind_doing(line, list(range(40)), looks * 120), list(range(40)))

    def test_refused(self):
        for things in NO_THINGS:
            self.check_refused(NoThings, behind_doing, LINE, things, [])
            self.check_refused(NoThings, behind_doing, LINE, things, [[(0, 1)], []])
        for exchanges in NO_ROUNDS:
            for doing in [[exchanges], [[(0, 1)], [], exchanges], [exchanges, [(0, 1)]]]:
                self.check_refused(NoRound, behind_doing, LINE, [0, 1, 2, 3, 4], doing)
                for things in NO_THINGS:
                    self.check_refused(NoThings, behind_doing, LINE, things, doing)

    def test_what_is_handed_in_stays_and_is_not_kept(self):
        web, things, doing = line_web(3), [2, 0, 1], [[(0, 1)], [(1, 2)]]
        told = behind_doing(web, things, doing)
        self.assertEqual((web, things, doing), (line_web(3), [2, 0, 1], [[(0, 1)], [(1, 2)]]))
        things.clear()
        doing[0].clear()
        self.check_list(told, [0, 1, 2])
        told.clear()
        self.check_list(behind_doing(web, [2, 0, 1], [[(0, 1)], [(1, 2)]]), [0, 1, 2])
        things = [2, 0, 1]
        behind_doing(web, things, []).append(9)
        self.assertEqual(things, [2, 0, 1])


class Point10Leads(Case):
    def test_leads_home(self):
        self.assertIs(leads_home(LINE, [1, 0, 2, 4, 3], [[(0, 1), (3, 4)]]), True)
        self.assertIs(leads_home(LINE, [1, 0, 2, 4, 3], [[(0, 1)]]), False)
        self.assertIs(leads_home(LINE, [2, 0, 1, 3, 4], [[(0, 1)], [], [(1, 2)]]), True)
        self.assertIs(leads_home(LINE, [2, 0, 1, 3, 4], [[(1, 2)], [], [(0, 1)]]), False)

    def test_a_doing_of_no_rounds(self):
        for web in WEBS:
            things = list(range(web[0]))
            self.assertIs(leads_home(web, things, []), True)
            self.assertIs(leads_home(web, things, [[], []]), True)
            if web[0] > 1:
                self.assertIs(leads_home(web, turned(things, 1), []), False)

    def test_all_doings_of_two_rounds_on_small_webs(self):
        for web in small_webs(3):
            home = list(range(web[0]))
            for things, one, other in product(every_things(web), every_round(web), every_round(web)):
                due = moved(moved(things, one), other) == home
                self.assertIs(leads_home(web, things, [one, other]), due)

    def test_what_is_no_round_leads_nowhere(self):
        # Each list but for the one fault would lead these things home.
        home = [0, 1, 2, 3, 4]
        for exchanges in NO_ROUNDS:
            for doing in [[exchanges], [[], exchanges], [exchanges, exchanges], [exchanges, []]]:
                self.assertIs(leads_home(LINE, home, doing), False, doing)
        self.assertIs(leads_home(LINE, [1, 0, 3, 2, 4], [[(2, 3), (0, 1)]]), False)
        self.assertIs(leads_home(LINE, [1, 0, 2, 3, 4], [[(1, 0)]]), False)
        self.assertIs(leads_home(LINE, [2, 1, 0, 3, 4], [[(0, 2)]]), False)
        self.assertIs(leads_home(LINE, home, [[(0, 1), (0, 1)]]), False)
        self.assertIs(leads_home(LINE, [2, 0, 1, 3, 4], [[(0, 1), (1, 2)]]), False)
        self.assertIs(leads_home(BARE, [1, 0, 2, 3], [[(0, 1)]]), False)

    def test_no_things(self):
        for things in NO_THINGS:
            for doing in [[], [[]], [[(0, 1)]], [NO_ROUNDS[0]], [[], NO_ROUNDS[-1]]]:
                self.check_refused(NoThings, leads_home, LINE, things, doing)

    def test_very_many_rounds(self):
        line = line_web(40)
        looks = [[(k, k + 1) for k in range(at, 39, 2)] for at in (0, 1)]
        self.assertIs(leads_home(line, list(range(39, -1, -1)), looks * 20), True)
        self.assertIs(leads_home(line, list(range(40)), looks * 150), False)
        self.assertIs(leads_home(line, list(range(40)), looks * 120), True)
        self.assertIs(leads_home(line, list(range(40)), looks * 120 + [[(39, 40)]]), False)

    def test_what_is_handed_in_stays(self):
        for web, doing in DOINGS:
            things = turned(list(range(web[0])), 1)
            before = copy.deepcopy((web, things, doing))
            leads_home(web, things, doing)
            self.assertEqual((web, things, doing), before)


class Point11(Case):
    def test_turned_about(self):
        self.check_list(turned_about([]), [])
        self.check_list(turned_about([[]]), [[]])
        self.check_list(turned_about([[(0, 1), (2, 3)], [], [(1, 2)]]), [[(1, 2)], [], [(0, 1), (2, 3)]])
        doing = [[(k, k + 1)] for k in range(300)]
        self.check_list(turned_about(doing), [[(299 - k, 300 - k)] for k in range(300)])

    def test_from_home_it_leads_to_the_things_that_the_doing_leads_home(self):
        for web, doing in DOINGS:
            home = list(range(web[0]))
            things = behind_doing(web, home, turned_about(doing))
            self.assertIs(leads_home(web, things, doing), True)
            self.check_list(behind_doing(web, things, doing), home)
        for web in small_webs(3):
            for one, other in product(every_round(web), repeat=2):
                things = behind_doing(web, list(range(web[0])), turned_about([one, other]))
                self.assertIs(leads_home(web, things, [one, other]), True)

    def test_what_is_handed_in_stays_and_each_list_is_new(self):
        doing = [[(0, 1)], [], [(1, 2)]]
        told = turned_about(doing)
        self.assertEqual(doing, [[(0, 1)], [], [(1, 2)]])
        for exchanges in told:
            exchanges.append((7, 8))
        told.pop()
        self.assertEqual(doing, [[(0, 1)], [], [(1, 2)]])
        told = turned_about(doing)
        for exchanges in doing:
            exchanges.clear()
        doing.clear()
        self.check_list(told, [[(1, 2)], [], [(0, 1)]])

    def test_a_round_that_stands_twice_is_told_as_two_lists(self):
        exchanges = [(0, 1)]
        told = turned_about([exchanges, exchanges])
        told[0].clear()
        self.assertEqual(told, [[], [(0, 1)]])
        self.assertEqual(exchanges, [(0, 1)])


class Point12(Case):
    def test_how_far_things_are_from_home(self):
        self.check_list(far_from_home(LINE, [4, 1, 0, 2, 3]), [4, 0, 2, 1, 1])
        self.check_list(far_from_home(RING, [4, 3, 0, 2, 1]), [1, 2, 2, 1, 2])
        self.check_list(far_from_home(GRID, [5, 4, 3, 2, 1, 0]), [3, 1, 3, 3, 1, 3])
        self.check_list(far_from_home(TREE, [0, 1, 5, 4, 3, 2]), [0, 0, 1, 2, 2, 1])
        self.check_list(far_from_home(PARTS, [6, 0, 2, 1, 3, 5, 4]), [2, None, 0, 2, None, 0, None])
        self.check_list(far_from_home(BARE, [0, 2, 1, 3]), [0, None, None, 0])
        self.check_list(far_from_home(ONE, [0]), [0])

    def test_all_small_webs(self):
        for web in small_webs(4):
            far = distances(web)
            for things in every_things(web):
                due = [far[place][home] for place, home in enumerate(things)]
                self.check_list(far_from_home(web, things), due)

    def test_the_greatest_kinds(self):
        self.check_list(far_from_home(cube_web(5), list(range(31, -1, -1))), [5] * 32)
        due = [abs(39 - 2 * k) for k in range(40)]
        self.check_list(far_from_home(line_web(40), list(range(39, -1, -1))), due)

    def test_no_things(self):
        for things in NO_THINGS:
            self.check_refused(NoThings, far_from_home, LINE, things)

    def test_what_is_handed_in_stays_and_each_list_is_new(self):
        web, things = line_web(3), [2, 1, 0]
        told = far_from_home(web, things)
        self.assertEqual((web, things), (line_web(3), [2, 1, 0]))
        told.clear()
        self.check_list(far_from_home(web, things), [2, 0, 2])
        told = far_from_home(web, things)
        web[1].clear()
        things.clear()
        self.check_list(told, [2, 0, 2])


if __name__ == "__main__":
    unittest.main()
