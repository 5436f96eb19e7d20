"""Points 34 to 36, and 2, 3 and 4 as they bear on these."""

import unittest
from itertools import combinations, permutations

from ledhome.errors import NeverHome, NoThings, TooMany
from ledhome.kinds import homes_for, how_many_come, least_for
from ledhome.least import least_home
from ledhome.webs import cube_web, grid_web, line_web, ring_web, tree_web, web_of
from samples import (
    BARE, CUBE, GREAT, GRID, LINE, ONE, PARTS, RING, TREE, Case,
    distances, every_round, moved, moved_by, shuffled, small_webs, turned,
)

STAR = tree_web([0] * 5)
FULL = web_of(6, list(combinations(range(6), 2)))
SIX = [
    line_web(6), ring_web(6), GRID, TREE, STAR, FULL, grid_web(1, 6), (6, [(0, 1), (0, 2), (1, 2), (3, 4), (4, 5)]),
    web_of(6, [(0, 5), (5, 2), (2, 4), (4, 1), (1, 3)]), (6, [(0, 3), (1, 4)]), (6, []),
]
LESS = [LINE, RING, cube_web(2), BARE, ONE, line_web(2), (2, []), (5, [(0, 4), (1, 3), (2, 4)])]
FAR_APART = [-GREAT, 3, GREAT, -7, 0, 10 ** 28]

# Webs of too many places, with things that could be led home on them and that could not.
TOO_GREAT = [PARTS, CUBE, (7, []), line_web(7), ring_web(40), (8, [(k, k + 1) for k in range(7)])]

# Kinds and wishes of webs of five places, one or the other not as they should be.
NO_WISHES = [
    ([], []), ([1], [1]), ([1, 2, 3, 4], [1, 2, 3, 4]), ([1, 1, 1, 1, 1, 1], [1, 1, 1, 1, 1, 1]),
    ([1, 2, 3, 4, 5], [1, 2, 3, 4]), ([1, 2, 3, 4], [1, 2, 3, 4, 5]), ([1, 1, 1, 1, 1], []), ([], [1, 1, 1, 1, 1]),
    ([1, 1, 1, 1, 1], [1, 1, 1, 1, 1, 1]), ([1, 1, 1, 1, 1, 1], [1, 1, 1, 1, 1]),
    ([1, 1, 2, 2, 2], [1, 1, 1, 2, 2]), ([1, 1, 1, 1, 1], [2, 2, 2, 2, 2]), ([1, 2, 3, 4, 5], [1, 2, 3, 4, 6]),
    ([1, 2, 3, 4, 5], [1, 2, 3, 4, -5]), ([0, 0, 0, 0, GREAT], [0, 0, 0, 0, GREAT + 1]),
    ([0, 0, 0, 0, GREAT], [0, 0, 0, 0, -GREAT]),
]


def patterns(many):
    """Kinds that are all alike, all unlike, and of two and three sorts, small, below 0 and very great."""
    sorts = [[0] * many, list(range(many)), [k % 2 for k in range(many)], [k % 3 for k in range(many)],
             [0] * (many - 1) + [1], [int(k > 1) for k in range(many)]]
    for sort in sorts:
        yield sort
        yield [FAR_APART[kind] for kind in sort]


def small_cases():
    """All webs of few places, with all wishes for kinds of every pattern."""
    for web in small_webs(4):
        for kinds in sorted({tuple(sorted(kinds)) for kinds in patterns(web[0])}):
            for wishes in sorted(set(permutations(kinds))):
                yield web, list(kinds), list(wishes)


def cases():
    """Webs of up to six places, with kinds of every pattern and some wishes for them."""
    for web in SIX + LESS:
        for at, kinds in enumerate(patterns(web[0])):
            for seed in range(3):
                yield web, shuffled(kinds, seed), shuffled(kinds, 10 * at + seed + 3)
            yield web, kinds, kinds[::-1]
            yield web, kinds, turned(kinds, 1)
            yield web, kinds, list(kinds)


def slow_homes(web, kinds, wishes):
    """The first homes whose greatest way is least, or None, of all homes there are, each looked at."""
    far, best = distances(web), None
    for homes in permutations(range(web[0])):
        ways = [far[place][home] for place, home in enumerate(homes)]
        if None not in ways and all(wishes[home] == kind for home, kind in zip(homes, kinds)):
            if best is None or max(ways) < best[0]:
                best = max(ways), list(homes)
    return best and best[1]


def rounds_to(web, wishes):
    """By arrangement, as a tuple, the fewest rounds from there to the wishes; none where they are not come to."""
    rounds, fewest, edge, far = every_round(web), {}, [tuple(wishes)], 0
    while edge:
        fewest.update({there: far for there in edge})
        far += 1
        edge = {tuple(moved(there, exchanges)) for there in edge for exchanges in rounds} - set(fewest)
    return fewest


class Point34(Case):
    def test_homes(self):
        self.check_list(homes_for(line_web(3), [5, 6, 5], [5, 5, 6]), [0, 2, 1])
        self.check_list(homes_for(line_web(4), [1, 1, 2, 2], [2, 2, 1, 1]), [2, 3, 0, 1])
        self.check_list(homes_for(ring_web(5), [9, 0, 0, 0, 0], [0, 0, 0, 0, 9]), [4, 0, 1, 2, 3])
        self.check_list(homes_for(ONE, [-GREAT], [-GREAT]), [0])

    def test_the_greatest_way_is_least(self):
        # On the line 0, 3, 1, 2 the first homes as lists, [1, 0, 3, 2], have ways of two steps.
        self.check_list(homes_for((4, [(0, 3), (1, 2), (1, 3)]), [7, 8, 7, 8], [8, 7, 8, 7]), [3, 2, 1, 0])

    def test_the_first_of_those_whose_greatest_way_is_least(self):
        self.check_list(homes_for(line_web(4), [7, 7, 7, 8], [8, 7, 7, 7]), [1, 2, 3, 0])
        self.check_list(homes_for(line_web(4), [7, 7, 8, 7], [7, 8, 7, 7]), [0, 2, 1, 3])
        # Where all things are alike each one is at home already.
        for web in SIX + LESS:
            self.check_list(homes_for(web, [3] * web[0], [3] * web[0]), list(range(web[0])))

    def test_the_sum_of_ways_does_not_count(self):
        # One thing with two steps is worse than three with one each.
        self.check_list(homes_for(line_web(3), [4, 4, 5], [5, 4, 4]), [1, 2, 0])
        self.check_list(homes_for(line_web(4), [1, 2, 1, 1], [1, 1, 1, 2]), [0, 3, 1, 2])

    def test_all_wishes_on_all_small_webs(self):
        for web, kinds, wishes in small_cases():
            self.check_homes(web, kinds, wishes)

    def test_wishes_on_webs_of_up_to_six_places(self):
        for web, kinds, wishes in cases():
            self.check_homes(web, kinds, wishes)

    def check_homes(self, web, kinds, wishes):
        due = slow_homes(web, kinds, wishes)
        if due is None:
            self.check_refused(NeverHome, homes_for, web, kinds, wishes)
        else:
            self.check_list(homes_for(web, kinds, wishes), due)

    def test_what_is_handed_in_stays_and_each_list_is_new(self):
        for web, kinds, wishes in cases():
            if slow_homes(web, kinds, wishes) is not None:
                self.told_by(homes_for, web, kinds, wishes)

    def test_what_was_handed_in_is_not_kept(self):
        web, kinds, wishes = web_of(3, [(0, 1), (1, 2)]), [1, 1, 2], [1, 2, 1]
        self.check_list(homes_for(web, kinds, wishes), [0, 2, 1])
        kinds[:] = [2, 1, 1]
        self.check_list(homes_for(web, kinds, wishes), [1, 0, 2])
        wishes[:] = [2, 1, 1]
        self.check_list(homes_for(web, kinds, wishes), [0, 1, 2])
        web[1].clear()
        wishes[:] = [1, 2, 1]
        self.check_refused(NeverHome, homes_for, web, kinds, wishes)


class Refusals34And35(Case):
    """Both points refuse the same."""

    def check_both(self, refusal, *handed):
        self.check_refused(refusal, homes_for, *handed)
        self.check_refused(refusal, least_for, *handed)

    def test_no_things(self):
        for kinds, wishes in NO_WISHES:
            for web in [LINE, RING, (5, []), (5, [(0, 1), (2, 4)])]:
                self.check_both(NoThings, web, kinds, wishes)
        for kinds, wishes in [([], []), ([1], [2]), ([1, 1], [1, 1]), ([1], []), ([], [1])]:
            self.check_both(NoThings, ONE, kinds, wishes)

    def test_too_many(self):
        for web in TOO_GREAT:
            for kinds in patterns(web[0]) if web[0] <= 6 else [[4] * web[0], list(range(web[0])), [GREAT] * web[0]]:
                self.check_both(TooMany, web, kinds, list(kinds))
                self.check_both(TooMany, web, kinds, kinds[::-1])

    def test_never_home(self):
        self.check_both(NeverHome, BARE, [1, 1, 1, 2], [1, 1, 2, 1])
        self.check_both(NeverHome, (2, []), [0, 1], [1, 0])
        self.check_both(NeverHome, (6, [(0, 1), (2, 3), (4, 5)]), [1, 2, 3, 3, 2, 1], [1, 1, 3, 3, 2, 2])
        self.check_both(NeverHome, (6, [(0, 1), (1, 2), (3, 4), (4, 5)]), [8, 8, 9, 9, 9, 9], [8, 9, 9, 8, 9, 9])

    def test_no_things_go_ahead_of_too_many(self):
        for web in TOO_GREAT:
            many = web[0]
            for kinds, wishes in [([], []), ([1] * (many - 1), [1] * many), ([1] * many, [1] * (many + 1)),
                                  ([1] * many, [2] * many), ([1] * 6, [1] * 6)]:
                self.check_both(NoThings, web, kinds, wishes)
        self.check_both(NoThings, web_of(GREAT, [(0, 1)]), [1, 2], [2, 1])

    def test_no_things_go_ahead_of_never_home(self):
        self.check_both(NoThings, BARE, [1, 1, 1, 2], [1, 1, 2, 2])
        self.check_both(NoThings, BARE, [1, 1, 1, 2, 3], [2, 1, 1, 1])

    def test_too_many_goes_ahead_of_never_home(self):
        self.check_both(TooMany, (7, []), [1, 2, 3, 4, 5, 6, 7], [2, 1, 3, 4, 5, 6, 7])
        self.check_both(TooMany, PARTS, [1, 0, 0, 0, 0, 0, 0], [0, 1, 0, 0, 0, 0, 0])


class Point35(Case):
    def check_told(self, told, rounds, doing):
        self.assertEqual(told, (rounds, doing))
        self.assertIs(told.__class__, tuple)
        self.assertIs(told[0].__class__, int)
        self.check_doing(told[1])

    def test_fewest_rounds(self):
        self.check_told(least_for(line_web(3), [5, 6, 5], [5, 5, 6]), 1, [[(1, 2)]])
        self.check_told(least_for(line_web(3), [6, 5, 5], [5, 5, 6]), 2, [[(0, 1)], [(1, 2)]])
        self.check_told(least_for(line_web(4), [1, 1, 2, 2], [2, 2, 1, 1]), 3, [[(1, 2)], [(0, 1), (2, 3)], [(1, 2)]])
        self.check_told(least_for(ring_web(5), [9, 0, 0, 0, 0], [0, 0, 0, 0, 9]), 1, [[(0, 4)]])

    def test_a_round_may_exchange_alike_things(self):
        # The exchange of the alike things at 0 and 1 puts the round ahead of the one without it.
        self.check_told(least_for(line_web(4), [0, 0, 0, 1], [0, 0, 1, 0]), 1, [[(0, 1), (2, 3)]])
        self.check_told(least_for(line_web(4), [1, 0, 0, 0], [0, 1, 0, 0]), 1, [[(0, 1)]])
        self.check_told(least_for(line_web(5), [0, 0, 0, 0, 1], [0, 0, 0, 1, 0]), 1, [[(0, 1), (3, 4)]])

    def test_wishes_that_are_there_already(self):
        for web in SIX + LESS:
            for kinds in patterns(web[0]):
                self.check_told(least_for(web, kinds, list(kinds)), 0, [])

    def check_least(self, web, kinds, wishes, fewest):
        """Each round of the doing is the first one behind which one round fewer is left to do."""
        if tuple(kinds) not in fewest:
            self.check_refused(NeverHome, least_for, web, kinds, wishes)
            return
        told = least_for(web, kinds, wishes)
        rounds, doing = told
        self.assertEqual(rounds, fewest[tuple(kinds)])
        self.check_told(told, len(doing), doing)
        every, there = sorted(every_round(web)), kinds
        for exchanges in doing:
            left = fewest[tuple(there)] - 1
            leading = [one for one in every if fewest[tuple(moved(there, one))] == left]
            self.assertEqual(exchanges, leading[0])
            there = moved(there, exchanges)
        self.assertEqual(there, wishes)
        self.assertEqual(moved_by(kinds, doing), wishes)

    def test_all_wishes_on_all_small_webs(self):
        for web, kinds, wishes in small_cases():
            self.check_least(web, kinds, wishes, rounds_to(web, wishes))

    def test_wishes_on_webs_of_up_to_six_places(self):
        for web, kinds, wishes in cases():
            self.check_least(web, kinds, wishes, rounds_to(web, wishes))

    def test_it_is_no_longer_than_for_the_homes_that_are_told(self):
        for web, kinds, wishes in cases():
            if slow_homes(web, kinds, wishes) is not None:
                homes = homes_for(web, kinds, wishes)
                self.assertLessEqual(least_for(web, kinds, wishes)[0], len(least_home(web, homes)[1]))

    def test_unlike_kinds_are_things(self):
        for web in SIX + LESS:
            for seed in range(4):
                homes = shuffled(range(web[0]), seed)
                kind, told = least_home(web, homes)
                if kind == "doing":
                    self.check_told(least_for(web, homes, list(range(web[0]))), len(told), told)
                else:
                    self.check_refused(NeverHome, least_for, web, homes, list(range(web[0])))

    def test_what_is_handed_in_stays_and_each_list_is_new(self):
        for web, kinds, wishes in cases():
            if slow_homes(web, kinds, wishes) is not None:
                self.told_by(least_for, web, kinds, wishes)

    def test_what_was_handed_in_is_not_kept(self):
        web, kinds, wishes = web_of(3, [(0, 1), (1, 2)]), [1, 1, 2], [1, 2, 1]
        told = least_for(web, kinds, wishes)
        kinds[:] = [2, 1, 1]
        self.check_told(told, 1, [[(1, 2)]])
        self.check_told(least_for(web, kinds, wishes), 1, [[(0, 1)]])
        wishes[:] = [2, 1, 1]
        self.check_told(least_for(web, kinds, wishes), 0, [])


class Point36(Case):
    def check_many(self, web, kinds, due):
        told = how_many_come(web, kinds)
        self.assertEqual(told, due)
        self.assertIs(told.__class__, int)

    def test_arrangements(self):
        self.check_many(line_web(3), [1, 1, 2], 3)
        self.check_many(line_web(3), [1, 1, 1], 1)
        self.check_many(line_web(6), [1, 2, 3, 4, 5, 6], 720)
        self.check_many(STAR, [1, 1, 2, 2, 3, 3], 90)
        self.check_many(FULL, [GREAT, GREAT, GREAT, -GREAT, -GREAT, -GREAT], 20)
        self.check_many((6, [(0, 1), (2, 3), (4, 5)]), [1, 2, 1, 2, 1, 1], 4)
        self.check_many((6, [(0, 2), (2, 4), (1, 3)]), [1, 5, 2, 5, 3, 1], 6)

    def test_a_web_without_pairs(self):
        for many in range(1, 7):
            for kinds in patterns(many):
                self.check_many((many, []), kinds, 1)

    def test_all_that_is_come_to_on_small_webs(self):
        for web in small_webs(4):
            for kinds in patterns(web[0]):
                self.check_many(web, kinds, len(rounds_to(web, kinds)))

    def test_all_that_is_come_to_on_webs_of_up_to_six_places(self):
        for web in SIX + LESS:
            for at, kinds in enumerate(patterns(web[0])):
                kinds = shuffled(kinds, at)
                self.check_many(web, kinds, len(rounds_to(web, kinds)))

    def test_no_things(self):
        for web in SIX + LESS:
            for many in sorted({0, web[0] - 1, web[0] + 1, 7, 40} - {web[0]}):
                self.check_refused(NoThings, how_many_come, web, [1] * many)

    def test_too_many(self):
        for web in TOO_GREAT:
            for kinds in [[4] * web[0], list(range(web[0])), [GREAT] * web[0]]:
                self.check_refused(TooMany, how_many_come, web, kinds)

    def test_no_things_go_ahead_of_too_many(self):
        for web in TOO_GREAT + [web_of(GREAT, [])]:
            for many in [0, 1, 6, 41]:
                self.check_refused(NoThings, how_many_come, web, [1] * many)

    def test_what_is_handed_in_stays_and_is_not_kept(self):
        web, kinds = web_of(3, [(0, 1), (1, 2)]), [1, 1, 2]
        self.assertEqual(self.told_by(how_many_come, web, kinds), 3)
        kinds[0] = 3
        self.assertEqual(self.told_by(how_many_come, web, kinds), 6)
        web[1].pop()
        self.assertEqual(self.told_by(how_many_come, web, kinds), 2)


class Point4(Case):
    def test_no_fewer_rounds_bring_about_the_wishes(self):
        for web in small_webs(3):
            for kinds in patterns(web[0]):
                for wishes in map(list, sorted(set(permutations(kinds)))):
                    known, rounds = {tuple(kinds)}, 0
                    while tuple(wishes) not in known and rounds < 4:
                        known |= {tuple(moved(there, one)) for there in known for one in every_round(web)}
                        rounds += 1
                    if tuple(wishes) in known:
                        self.assertEqual(least_for(web, kinds, wishes)[0], rounds)
                    else:
                        self.check_refused(NeverHome, least_for, web, kinds, wishes)


if __name__ == "__main__":
    unittest.main()
