"""Points 41 and 42, and 2, 3 and 4 as they bear on these."""

import unittest
from itertools import product

from ledhome.beside import doing_beside, things_beside, web_crossed, webs_beside
from ledhome.errors import NoRound, NoThings
from ledhome.rounds import leads_home
from ledhome.webs import cube_web, grid_web, how_far, line_web, ring_web, tree_web, web_of
from samples import (
    BARE, CUBE, GREAT, GRID, LINE, NO_ROUNDS, NO_THINGS, ONE, PARTS, RING, TREE, WEBS, Case,
    distances, drawn_doing, many_things, moved_by, shuffled, small_webs,
)

# Webs that make at most forty places together, small ones and greater ones.
SIDES = [*product(WEBS, repeat=2), (line_web(20), ring_web(20)), (grid_web(3, 10), TREE), (ONE, tree_web([0] * 38)),
         (cube_web(5), CUBE), (line_web(39), ONE), (web_of(20, []), grid_web(4, 5))]

# Webs that make at most forty places crossed.
CROSSED = [*product([LINE, RING, GRID, TREE, BARE, ONE], repeat=2), (CUBE, LINE), (LINE, CUBE), (PARTS, RING),
           (TREE, PARTS), (line_web(20), line_web(2)), (ONE, ring_web(40)), (tree_web([0] * 39), ONE),
           (ring_web(13), ring_web(3))]



def led_things(web, doing):
    """The things that the doing leads home on the web."""
    return moved_by(list(range(web[0])), doing[::-1])


class Point41Webs(Case):
    def check_web(self, told, due):
        self.assertEqual(told, due)
        self.assertIs(told.__class__, tuple)
        self.assertIs(told[1].__class__, list)
        self.assertTrue(all(pair.__class__ is tuple for pair in told[1]))

    def test_webs_side_by_side(self):
        self.check_web(webs_beside(line_web(2), line_web(3)), (5, [(0, 1), (2, 3), (3, 4)]))
        self.check_web(webs_beside(line_web(3), line_web(2)), (5, [(0, 1), (1, 2), (3, 4)]))
        self.check_web(webs_beside(BARE, ONE), (5, []))
        self.check_web(webs_beside(ONE, line_web(2)), (3, [(1, 2)]))
        self.check_web(webs_beside(line_web(2), ONE), (3, [(0, 1)]))

    def test_webs_of_many_kinds(self):
        for one, other in [*SIDES, *product(small_webs(3), repeat=2)]:
            many, further = one[0], [(a + one[0], b + one[0]) for a, b in other[1]]
            self.check_web(webs_beside(one, other), (many + other[0], sorted(one[1] + further)))

    def test_no_way_leads_from_the_one_to_the_other(self):
        for one, other in [(RING, TREE), (CUBE, GRID), (ONE, ONE), (LINE, PARTS)]:
            far, both = distances(webs_beside(one, other)), (distances(one), distances(other))
            for here, there in product(range(one[0] + other[0]), repeat=2):
                if (here < one[0]) != (there < one[0]):
                    self.assertIsNone(far[here][there])
                elif here < one[0]:
                    self.assertEqual(far[here][there], both[0][here][there])
                else:
                    self.assertEqual(far[here][there], both[1][here - one[0]][there - one[0]])

    def test_great_webs_that_were_told(self):
        told = webs_beside(web_of(GREAT, [(0, 1)]), web_of(GREAT, [(2, GREAT - 1)]))
        self.check_web(told, (2 * GREAT, [(0, 1), (GREAT + 2, 2 * GREAT - 1)]))

    def test_what_is_handed_in_stays_and_is_not_kept(self):
        for one, other in SIDES:
            self.told_by(webs_beside, one, other)
        web = line_web(2)
        told = webs_beside(web, web)
        web[1].clear()
        self.assertEqual(told, (4, [(0, 1), (2, 3)]))
        self.assertEqual(webs_beside(web, line_web(2)), (4, [(2, 3)]))


class Point41Things(Case):
    def test_things_side_by_side(self):
        self.check_list(things_beside(line_web(2), line_web(3), [1, 0], [2, 0, 1]), [1, 0, 4, 2, 3])
        self.check_list(things_beside(ONE, ONE, [0], [0]), [0, 1])

    def test_things_of_many_orders(self):
        for one, other in SIDES:
            for things, others in zip(many_things(one[0]), reversed(list(many_things(other[0])))):
                told = things_beside(one, other, things, others)
                self.check_list(told[:one[0]], things)
                self.check_list([home - one[0] for home in told[one[0]:]], others)

    def test_no_things_of_the_one_of_the_other_and_of_both(self):
        for things in NO_THINGS:
            for one, other in [(LINE, RING), (RING, LINE), ((5, []), LINE)]:
                self.check_refused(NoThings, things_beside, one, other, things, [4, 3, 2, 1, 0])
                self.check_refused(NoThings, things_beside, one, other, [4, 3, 2, 1, 0], things)
                self.check_refused(NoThings, things_beside, one, other, things, things)

    def test_things_of_the_wrong_web(self):
        self.check_refused(NoThings, things_beside, line_web(2), line_web(3), [2, 0, 1], [1, 0])
        self.check_refused(NoThings, things_beside, line_web(2), line_web(3), [1, 0], [1, 0])
        self.check_refused(NoThings, things_beside, line_web(2), line_web(3), [2, 0, 1], [2, 0, 1])
        self.check_refused(NoThings, things_beside, line_web(2), line_web(2), [1, 0], [3, 2])

    def test_what_is_handed_in_stays_and_is_not_kept(self):
        for one, other in SIDES:
            self.told_by(things_beside, one, other, shuffled(range(one[0]), 2), shuffled(range(other[0]), 3))
        things = [1, 0]
        told = things_beside(line_web(2), line_web(2), things, things)
        things[:] = [0, 1]
        self.assertEqual(told, [1, 0, 3, 2])
        self.assertEqual(things_beside(line_web(2), line_web(2), things, [1, 0]), [0, 1, 3, 2])


class Point41Doings(Case):
    def test_round_by_round(self):
        self.check_list(
            doing_beside(LINE, RING, [[(0, 1)], [(1, 2), (3, 4)]], [[(0, 4)], [(2, 3)]]),
            [[(0, 1), (5, 9)], [(1, 2), (3, 4), (7, 8)]],
        )

    def test_as_long_as_the_longer_one(self):
        self.check_list(doing_beside(LINE, LINE, [[(0, 1)], [(2, 3)]], []), [[(0, 1)], [(2, 3)]])
        self.check_list(doing_beside(LINE, LINE, [], [[(0, 1)], [(2, 3)]]), [[(5, 6)], [(7, 8)]])
        self.check_list(doing_beside(LINE, LINE, [[]], [[], [(0, 1)], []]), [[], [(5, 6)], []])
        self.check_list(doing_beside(LINE, LINE, [[], [(0, 1)], []], [[(0, 1)]]), [[(5, 6)], [(0, 1)], []])
        self.check_list(doing_beside(LINE, LINE, [], []), [])
        self.check_list(doing_beside(ONE, BARE, [[]] * 21, [[]]), [[]] * 21)

    def test_doings_of_many_kinds(self):
        for one, other in SIDES:
            for seed, (many, more) in enumerate([(0, 3), (3, 0), (1, 1), (4, 4), (2, 7), (21, 20), (20, 21)]):
                doing, others = drawn_doing(one, many, seed), drawn_doing(other, more, seed + 50)
                told = doing_beside(one, other, doing, others)
                self.check_doing(told)
                self.assertEqual(len(told), max(many, more))
                for at, exchanges in enumerate(told):
                    due = doing[at] if at < many else []
                    further = others[at] if at < more else []
                    self.assertEqual(exchanges, sorted(due + [(a + one[0], b + one[0]) for a, b in further]))

    def test_it_leads_home_just_where_both_do(self):
        for one, other in [(LINE, RING), (TREE, CUBE), (PARTS, GRID), (line_web(20), ring_web(20))]:
            both, seen = webs_beside(one, other), set()
            for seed in range(4):
                doing, others = drawn_doing(one, 3 + seed, seed), drawn_doing(other, 6 - seed, seed + 9)
                for things, homes in product([led_things(one, doing), shuffled(range(one[0]), seed)],
                                             [led_things(other, others), shuffled(range(other[0]), seed)]):
                    apart = leads_home(one, things, doing), leads_home(other, homes, others)
                    told = doing_beside(one, other, doing, others)
                    together = leads_home(both, things_beside(one, other, things, homes), told)
                    self.assertIs(together, apart[0] and apart[1])
                    seen.add(apart)
            self.assertEqual(len(seen), 4)

    def test_no_rounds_of_the_one_of_the_other_and_of_both(self):
        for wrong in NO_ROUNDS:
            for doing in [[wrong], [[], wrong], [[(0, 1)], wrong, [(1, 2)]], [[]] * 20 + [wrong]]:
                self.check_refused(NoRound, doing_beside, LINE, LINE, doing, [])
                self.check_refused(NoRound, doing_beside, LINE, LINE, [[(0, 1)]], doing)
                self.check_refused(NoRound, doing_beside, LINE, LINE, doing, doing)

    def test_each_doing_is_one_of_its_own_web(self):
        # The pair stands on the one web and not on the other, or on both side by side alone.
        self.check_refused(NoRound, doing_beside, RING, LINE, [], [[(0, 4)]])
        self.check_refused(NoRound, doing_beside, LINE, RING, [[(0, 4)]], [])
        self.check_refused(NoRound, doing_beside, LINE, LINE, [[(5, 6)]], [])
        self.check_refused(NoRound, doing_beside, LINE, LINE, [], [[(5, 6)]])
        self.check_refused(NoRound, doing_beside, LINE, LINE, [[(0, 1), (5, 6)]], [])
        self.check_refused(NoRound, doing_beside, BARE, LINE, [[(0, 1)]], [[(0, 1)]])

    def test_what_is_handed_in_stays_and_is_not_kept(self):
        for one, other in SIDES:
            for many, more in [(0, 2), (2, 0), (3, 3), (1, 4)]:
                self.told_by(doing_beside, one, other, drawn_doing(one, many, 6), drawn_doing(other, more, 7))
        doing = [[(0, 1)]]
        told = doing_beside(LINE, LINE, doing, doing)
        doing[0].clear()
        self.assertEqual(told, [[(0, 1), (5, 6)]])
        self.assertEqual(doing_beside(LINE, LINE, doing, [[(0, 1)]]), [[(5, 6)]])


class Point42(Case):
    def check_web(self, told, due):
        self.assertEqual(told, due)
        self.assertIs(told.__class__, tuple)
        self.assertIs(told[1].__class__, list)
        self.assertTrue(all(pair.__class__ is tuple for pair in told[1]))

    def test_webs_crossed(self):
        self.check_web(web_crossed(line_web(2), line_web(2)), (4, [(0, 1), (0, 2), (1, 3), (2, 3)]))
        self.check_web(web_crossed(ONE, LINE), LINE)
        self.check_web(web_crossed(LINE, ONE), LINE)
        self.check_web(web_crossed((2, []), line_web(3)), (6, [(0, 1), (1, 2), (3, 4), (4, 5)]))
        self.check_web(web_crossed(line_web(3), (2, [])), (6, [(0, 2), (1, 3), (2, 4), (3, 5)]))
        self.check_web(web_crossed(BARE, BARE), (16, []))

    def test_a_grid_is_a_line_crossed_with_a_line(self):
        for rows, columns in product(range(1, 41), repeat=2):
            if rows * columns <= 40:
                self.check_web(web_crossed(line_web(rows), line_web(columns)), grid_web(rows, columns))

    def test_a_cube_is_a_cube_crossed_with_the_line_of_two(self):
        for sides in range(5):
            self.check_web(web_crossed(cube_web(sides), line_web(2)), cube_web(sides + 1))
            self.check_web(web_crossed(line_web(2), cube_web(sides)), cube_web(sides + 1))

    def test_webs_of_many_kinds(self):
        for one, other in [*CROSSED, *product(small_webs(3), repeat=2)]:
            places = list(product(range(one[0]), range(other[0])))
            pairs = []
            for here, (a, b) in enumerate(places):
                for there, (c, d) in enumerate(places):
                    if here < there and (a == c and (b, d) in other[1] or b == d and (a, c) in one[1]):
                        pairs.append((here, there))
            self.check_web(web_crossed(one, other), (len(places), pairs))

    def test_how_far_is_the_sum_of_how_far_both_parts_are(self):
        for one, other in [(LINE, RING), (RING, LINE), (CUBE, LINE), (PARTS, RING), (TREE, PARTS), (BARE, GRID)]:
            crossed, far, further = web_crossed(one, other), distances(one), distances(other)
            for (a, b), (c, d) in product(product(range(one[0]), range(other[0])), repeat=2):
                parts = [far[a][c], further[b][d]]
                due = None if None in parts else sum(parts)
                self.assertEqual(how_far(crossed, a * other[0] + b, c * other[0] + d), due)

    def test_what_is_handed_in_stays_and_is_not_kept(self):
        for one, other in CROSSED:
            self.told_by(web_crossed, one, other)
        web = line_web(2)
        told = web_crossed(web, web)
        web[1].clear()
        self.assertEqual(told, (4, [(0, 1), (0, 2), (1, 3), (2, 3)]))
        self.assertEqual(web_crossed(web, line_web(2)), (4, [(0, 1), (2, 3)]))


if __name__ == "__main__":
    unittest.main()
