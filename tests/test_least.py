"""Points 20 to 24, and 2, 3 and 4 as they bear on these."""

import unittest
from itertools import combinations, permutations, product

from ledhome.along import home_along, never_home
from ledhome.errors import NeverHome, NoThings, TooMany
from ledhome.least import all_rounds, how_many_least, least_home, levels_of, levels_show
from ledhome.webs import cube_web, grid_web, line_web, ring_web, tree_web, web_of
from samples import (
    BARE, GREAT, GRID, LINE, NO_THINGS, ONE, PARTS, RING, TREE, WEBS, Case,
    every_round, every_things, fewest_rounds, least_doings, many_things, moved, small_webs, turned,
)

STAR = tree_web([0] * 5)
FULL = web_of(6, list(combinations(range(6), 2)))
SIX = [line_web(6), ring_web(6), GRID, TREE, STAR, FULL, tree_web([0, 0, 1, 1, 0]), grid_web(1, 6),
       web_of(6, [(0, 5), (5, 2), (2, 4), (4, 1), (1, 3)]), web_of(6, [(0, 1), (1, 2), (0, 2), (3, 4), (4, 5)]),
       web_of(6, [(0, 3), (1, 4)]), (6, [])]

# Seven places, of few pairs and of very many: fifteen pairs, and sixteen.
PAIRS = list(combinations(range(7), 2))
FIFTEEN = web_of(7, PAIRS[-15:])
SIXTEEN = web_of(7, PAIRS[-16:])


def ways_home(web, things, rounds):
    """How many doings of so many rounds lead home, worked out from the things on."""
    every = every_round(web)
    ways = {tuple(things): 1}
    for _ in range(rounds):
        behind = {}
        for there, many in ways.items():
            for exchanges in every:
                to = tuple(moved(there, exchanges))
                behind[to] = behind.get(to, 0) + many
        ways = behind
    return ways.get(tuple(range(web[0])), 0)


def let_by(web, things, levels):
    """Whether a paper is let by, word by word."""
    home, every = list(range(web[0])), every_round(web)
    if not levels:
        return True
    if any(sorted(there) != home or there == home for level in levels for there in level):
        return False
    return things in levels[0] and all(
        moved(there, exchanges) in further
        for level, further in zip(levels, levels[1:]) for there in level for exchanges in every
    )


def come_to(web, things, rounds):
    """All things that stand behind at most so many rounds."""
    every, known = every_round(web), {tuple(things)}
    for _ in range(rounds):
        known |= {tuple(moved(there, exchanges)) for there in known for exchanges in every}
    return [list(there) for there in sorted(known)]


def small_cases():
    """All things on all webs of few places, with the fewest rounds on each web."""
    for web in small_webs(4):
        fewest = fewest_rounds(web)
        for things in every_things(web):
            yield web, things, fewest


def six_cases():
    """Some things on webs of six places, with the fewest rounds on each web."""
    for web in SIX:
        fewest = fewest_rounds(web)
        for things in list(many_things(6)) + [list(there) for there in sorted(fewest)[::97]]:
            yield web, things, fewest


class Point20(Case):
    def check_told(self, told, kind, due):
        self.assertEqual(told, (kind, due))
        self.assertIs(told.__class__, tuple)

    def test_fewest_rounds(self):
        self.check_told(least_home(line_web(3), [2, 1, 0]), "doing", [[(0, 1)], [(1, 2)], [(0, 1)]])
        self.check_told(least_home(LINE, [1, 0, 2, 4, 3]), "doing", [[(0, 1), (3, 4)]])
        self.check_told(least_home(RING, [4, 1, 2, 3, 0]), "doing", [[(0, 4)]])
        self.check_told(least_home(GRID, [3, 4, 5, 0, 1, 2]), "doing", [[(0, 3), (1, 4), (2, 5)]])
        self.check_told(least_home(STAR, [0, 2, 1, 3, 4, 5]), "doing", [[(0, 1)], [(0, 2)], [(0, 1)]])
        self.check_told(least_home((6, [(0, 2), (3, 5)]), [2, 1, 0, 5, 4, 3]), "doing", [[(0, 2), (3, 5)]])

    def test_the_first_doing_of_several(self):
        # A thing that is at home may be led away, so that the first round comes ahead of others.
        self.check_told(least_home(ring_web(3), [1, 2, 0]), "doing", [[(0, 1)], [(0, 2)]])
        self.check_told(least_home(ring_web(3), [2, 1, 0]), "doing", [[(0, 2)]])
        self.check_told(least_home(line_web(4), [1, 2, 0, 3]), "doing", [[(1, 2)], [(0, 1)]])
        self.check_told(least_home(cube_web(2), [3, 2, 1, 0]), "doing", [[(0, 1), (2, 3)], [(0, 2), (1, 3)]])

    def test_things_at_home(self):
        for web in SIX + [ONE, LINE, BARE, FULL]:
            self.check_told(least_home(web, list(range(web[0]))), "doing", [])

    def test_never(self):
        self.check_told(least_home(BARE, [1, 0, 2, 3]), "never", 0)
        self.check_told(least_home(BARE, [0, 1, 3, 2]), "never", 2)
        self.check_told(least_home((6, [(0, 1), (2, 3), (4, 5)]), [1, 0, 3, 4, 5, 2]), "never", 3)

    def test_all_things_on_all_small_webs(self):
        for web, things, fewest in small_cases():
            self.check_least(web, things, fewest)
            least = fewest.get(tuple(things))
            if least is not None and len(every_round(web)) ** least < 2000:
                self.check_told(least_home(web, things), "doing", least_doings(web, things, least)[0])

    def check_least(self, web, things, fewest):
        """Each round of the doing is the first one behind which one round fewer is left to do."""
        if tuple(things) not in fewest:
            self.check_told(least_home(web, things), "never", never_home(web, things))
            return
        kind, doing = least_home(web, things)
        self.assertEqual(kind, "doing")
        self.assertEqual(len(doing), fewest[tuple(things)])
        self.check_leads_home(web, things, doing)
        rounds = sorted(every_round(web))
        for exchanges in doing:
            left = fewest[tuple(things)] - 1
            leading = [one for one in rounds if fewest[tuple(moved(things, one))] == left]
            self.assertEqual(exchanges, leading[0])
            things = moved(things, exchanges)

    def test_webs_of_six_places(self):
        for web, things, fewest in six_cases():
            self.check_least(web, things, fewest)

    def test_no_list_stands_in_a_doing_twice(self):
        kind, doing = self.told_by(least_home, STAR, [0, 2, 1, 3, 4, 5])
        self.assertEqual(doing[0], doing[2])

    def test_too_many_behind_no_things(self):
        for web in [line_web(7), ring_web(7), FIFTEEN, SIXTEEN, PARTS, (7, []), line_web(40)]:
            for things in [list(range(web[0])), turned(list(range(web[0])), 1)]:
                self.check_refused(TooMany, least_home, web, things)
            for things in [[], list(range(web[0] - 1)), list(range(web[0] + 1)), list(range(web[0] - 1)) + [0]]:
                self.check_refused(NoThings, least_home, web, things)
        self.check_refused(NoThings, least_home, web_of(GREAT, [(0, 1)]), [1, 0])

    def test_no_things(self):
        for things in NO_THINGS:
            self.check_refused(NoThings, least_home, LINE, things)
            self.check_refused(NoThings, least_home, (5, []), things)

    def test_what_is_handed_in_stays_and_each_list_is_new(self):
        for web in SIX:
            for things in many_things(6):
                self.told_by(least_home, web, things)

    def test_what_was_handed_in_is_not_kept(self):
        web, things = ring_web(3), [2, 1, 0]
        self.check_told(least_home(web, things), "doing", [[(0, 2)]])
        web[1].remove((0, 2))
        self.check_told(least_home(web, things), "doing", [[(0, 1)], [(1, 2)], [(0, 1)]])
        things[:] = [1, 0, 2]
        self.check_told(least_home(web, things), "doing", [[(0, 1)]])


class Point21(Case):
    def test_all_rounds(self):
        self.check_list(all_rounds(ONE), [[]])
        self.check_list(all_rounds(BARE), [[]])
        self.check_list(all_rounds(line_web(2)), [[], [(0, 1)]])
        self.check_list(all_rounds(line_web(4)), [[], [(0, 1)], [(0, 1), (2, 3)], [(1, 2)], [(2, 3)]])
        self.check_list(all_rounds(ring_web(4)), [
            [], [(0, 1)], [(0, 1), (2, 3)], [(0, 3)], [(0, 3), (1, 2)], [(1, 2)], [(2, 3)],
        ])

    def test_webs_of_every_kind(self):
        for web in list(small_webs(5)) + SIX + WEBS + [FIFTEEN]:
            told = all_rounds(web)
            self.check_list(told, sorted(every_round(web)))
            self.check_doing(told)

    def test_fifteen_pairs(self):
        self.assertEqual(len(all_rounds(FULL)), 76)
        self.assertEqual(len(all_rounds(line_web(16))), 1597)
        self.assertEqual(len(all_rounds(tree_web([0] * 15))), 16)
        self.assertEqual(len(all_rounds(web_of(40, [(k, k + 20) for k in range(15)]))), 2 ** 15)
        self.assertEqual(len(all_rounds(web_of(GREAT, [(k, GREAT - 1) for k in range(15)]))), 16)

    def test_sixteen_pairs(self):
        for web in [SIXTEEN, line_web(17), tree_web([0] * 16), line_web(40), cube_web(5), web_of(7, PAIRS),
                    web_of(GREAT, [(k, GREAT - 1) for k in range(16)])]:
            self.check_refused(TooMany, all_rounds, web)

    def test_what_is_handed_in_stays_and_each_list_is_new(self):
        for web in SIX + WEBS[:4]:
            self.told_by(all_rounds, web)

    def test_what_was_handed_in_is_not_kept(self):
        web = line_web(3)
        self.check_list(all_rounds(web), [[], [(0, 1)], [(1, 2)]])
        web[1].pop()
        self.check_list(all_rounds(web), [[], [(0, 1)]])


class Point22(Case):
    LINE3 = (3, [(0, 1), (1, 2)])
    # A paper that is let by for these things on the line of three places, which three rounds lead home.
    THINGS = [2, 1, 0]
    PAPER = [
        [[2, 1, 0]],
        [[2, 1, 0], [1, 2, 0], [2, 0, 1]],
        [[2, 1, 0], [1, 2, 0], [2, 0, 1], [1, 0, 2], [0, 2, 1]],
    ]

    def test_no_level(self):
        for web in [ONE, LINE, BARE, RING, PARTS, FIFTEEN]:
            for things in many_things(web[0]):
                self.assertIs(levels_show(web, things, []), True)

    def test_one_level(self):
        self.assertIs(levels_show(self.LINE3, self.THINGS, [[[2, 1, 0]]]), True)
        self.assertIs(levels_show(self.LINE3, self.THINGS, [[[1, 0, 2], [2, 1, 0], [2, 1, 0]]]), True)
        self.assertIs(levels_show(self.LINE3, self.THINGS, [[[1, 0, 2]]]), False)
        self.assertIs(levels_show(self.LINE3, self.THINGS, [[]]), False)
        self.assertIs(levels_show(ONE, [0], [[]]), False)

    def test_all_levels_there_can_be(self):
        for many in range(4):
            self.assertIs(levels_show(self.LINE3, self.THINGS, self.PAPER[:many]), True)

    def test_levels_too_many(self):
        every = [list(there) for there in permutations(range(3))]
        away = [there for there in every if there != [0, 1, 2]]
        for further in [every, away, self.PAPER[2], []]:
            self.assertIs(levels_show(self.LINE3, self.THINGS, self.PAPER + [further]), False)
        self.assertIs(levels_show(self.LINE3, self.THINGS, self.PAPER + [away, away]), False)

    def test_a_level_left_out(self):
        one, two, three = self.PAPER
        self.assertIs(levels_show(self.LINE3, self.THINGS, [one, three]), True)
        self.assertIs(levels_show(self.LINE3, self.THINGS, [two, three]), True)
        self.assertIs(levels_show(self.LINE3, self.THINGS, [three]), True)
        self.assertIs(levels_show(self.LINE3, self.THINGS, [one, one]), False)
        self.assertIs(levels_show(self.LINE3, self.THINGS, [one, one, two]), False)
        self.assertIs(levels_show(self.LINE3, self.THINGS, [one, three, two]), False)
        self.assertIs(levels_show(self.LINE3, self.THINGS, [two, three, three]), False)

    def test_a_level_that_lacks_one(self):
        for at, level in enumerate(self.PAPER):
            for lacking in range(len(level)):
                paper = [list(one) for one in self.PAPER]
                del paper[at][lacking]
                self.assertIs(levels_show(self.LINE3, self.THINGS, paper), False, paper)

    def test_behind_the_empty_round_too(self):
        # Behind each round that exchanges, but not behind the empty one, these stand in the next level.
        self.assertIs(levels_show(self.LINE3, self.THINGS, [[[2, 1, 0]], [[1, 2, 0], [2, 0, 1]]]), False)
        self.assertIs(levels_show(BARE, [1, 0, 2, 3], [[[1, 0, 2, 3]], [[0, 1, 3, 2]]]), False)
        self.assertIs(levels_show(BARE, [1, 0, 2, 3], [[[1, 0, 2, 3]]] * 9), True)

    def test_behind_rounds_of_several_exchanges_too(self):
        web, things = line_web(4), [3, 2, 1, 0]
        level = [[3, 2, 1, 0], [2, 3, 1, 0], [3, 1, 2, 0], [3, 2, 0, 1]]
        self.assertIs(levels_show(web, things, [[things], level]), False)
        self.assertIs(levels_show(web, things, [[things], level + [[2, 3, 0, 1]]]), True)

    def test_the_order_in_a_level_and_what_stands_there_twice_do_not_matter(self):
        paper = [level[::-1] + level for level in self.PAPER]
        self.assertIs(levels_show(self.LINE3, self.THINGS, paper), True)

    def test_lists_that_are_no_things_of_the_web(self):
        for none in [[], [2], [2, 1], [2, 1, 0, 3], [2, 1, 1], [2, 1, 3], [2, 1, -1], [GREAT, 1, 0], [-GREAT, 0, 1],
                     [0, 0, 0], [3, 2, 1]]:
            for at, level in enumerate(self.PAPER):
                for paper in [
                    self.PAPER[:at] + [level + [none]] + self.PAPER[at + 1:],
                    self.PAPER[:at] + [[none] + level] + self.PAPER[at + 1:],
                    self.PAPER[:at] + [level + [none]],
                    self.PAPER[:at] + [[none]] + self.PAPER[at + 1:],
                    self.PAPER[:at] + [[none]],
                ]:
                    self.assertIs(levels_show(self.LINE3, self.THINGS, paper), False, paper)

    def test_all_at_home_in_a_level(self):
        for at, level in enumerate(self.PAPER):
            for paper in [
                self.PAPER[:at] + [level + [[0, 1, 2]]] + self.PAPER[at + 1:],
                self.PAPER[:at] + [[[0, 1, 2]] + level],
            ]:
                self.assertIs(levels_show(self.LINE3, self.THINGS, paper), False, paper)
        self.assertIs(levels_show(self.LINE3, [0, 1, 2], [[[0, 1, 2]]]), False)
        self.assertIs(levels_show(ONE, [0], [[[0]]]), False)

    def test_things_that_never_come_home_have_papers_of_any_length(self):
        web, things = (4, [(0, 1), (2, 3)]), [2, 0, 1, 3]
        level = come_to(web, things, 5)
        for many in range(9):
            self.assertIs(levels_show(web, things, [level] * many), True)
        self.assertIs(levels_show(web, things, [level] * 4 + [level[1:]]), False)

    def test_all_papers_of_two_places(self):
        every = [[0, 1], [1, 0], [1, 1]]
        levels = [list(some) for many in range(4) for some in combinations(every, many)]
        for web in small_webs(2):
            if web[0] == 2:
                self.check_papers(web, [list(paper) for many in range(4) for paper in product(levels, repeat=many)])

    def test_all_papers_of_two_levels_on_three_places(self):
        every = [list(there) for there in permutations(range(3))]
        levels = [list(some) for many in range(7) for some in combinations(every, many)]
        for web in [self.LINE3, (3, [(0, 2)])]:
            self.check_papers(web, [list(paper) for paper in product(levels, repeat=2)], [[2, 1, 0], [1, 2, 0]])

    def check_papers(self, web, papers, every=None):
        """A paper is told True just where it is let by, and then no fewer rounds than levels lead home."""
        fewest = fewest_rounds(web)
        for things, paper in product(every or every_things(web), papers):
            due = let_by(web, things, paper)
            self.assertIs(levels_show(web, things, paper), due, (web, things, paper))
            if due and tuple(things) in fewest:
                self.assertLessEqual(len(paper), fewest[tuple(things)])

    def test_papers_of_all_that_is_come_to(self):
        for web, things, fewest in small_cases():
            least = fewest.get(tuple(things))
            paper = []
            for rounds in range(5):
                self.assertIs(levels_show(web, things, paper), least is None or len(paper) <= least)
                paper.append(come_to(web, things, rounds))

    def test_greater_webs(self):
        for web in [line_web(7), ring_web(7), FIFTEEN]:
            things = turned(list(range(7)), 1)
            paper = [come_to(web, things, rounds) for rounds in range(2)]
            self.assertIs(levels_show(web, things, paper), True)
            self.assertIs(levels_show(web, things, [paper[0], paper[1][1:]]), False)
        web = web_of(40, [(k, 39 - k) for k in range(15)])
        things = list(range(40))[::-1]
        self.assertIs(levels_show(web, things, [[things]]), True)
        self.assertIs(levels_show(web, things, [[things], [things]]), False)

    def test_too_many_behind_no_things_whatever_the_levels_are(self):
        for web in [SIXTEEN, line_web(17), line_web(40), web_of(7, PAIRS)]:
            home = list(range(web[0]))
            for levels in [[], [[]], [[home]], [[turned(home, 1)]], [[[0, 0]]]]:
                self.check_refused(TooMany, levels_show, web, home, levels)
                self.check_refused(TooMany, levels_show, web, turned(home, 1), levels)
                for things in [[], home[1:], home + [web[0]], home[:-1] + [0], home[:-1] + [web[0]]]:
                    self.check_refused(NoThings, levels_show, web, things, levels)

    def test_no_things(self):
        for things in NO_THINGS:
            for levels in [[], [[]], [[things]], [[[1, 0, 2, 3, 4]]]]:
                self.check_refused(NoThings, levels_show, LINE, things, levels)
        self.check_refused(NoThings, levels_show, web_of(GREAT, [(0, 1)]), [0], [])

    def test_what_is_handed_in_stays_and_is_not_kept(self):
        web, things, paper = line_web(3), [2, 1, 0], [[list(one) for one in level] for level in self.PAPER]
        self.assertIs(self.told_by(levels_show, web, things, paper), True)
        self.assertIs(self.told_by(levels_show, web, things, paper + [[]]), False)
        paper[1].pop()
        self.assertIs(levels_show(web, things, paper), False)
        paper[1].append([2, 0, 1])
        self.assertIs(levels_show(web, things, paper), True)
        paper[0].clear()
        self.assertIs(levels_show(web, things, paper), False)
        web[1].append((0, 2))
        self.assertIs(levels_show(web, things, self.PAPER), False)


class Point23(Case):
    def check_paper(self, web, things, fewest):
        told = levels_of(web, things)
        self.assertIs(told.__class__, list)
        self.assertEqual(len(told), fewest)
        for level in told:
            self.assertIs(level.__class__, list)
            self.assertEqual({there.__class__ for there in level}, {list})
        self.assertIs(levels_show(web, things, told), True)
        return told

    def test_all_things_on_all_small_webs(self):
        for web, things, fewest in small_cases():
            if tuple(things) not in fewest:
                self.check_refused(NeverHome, levels_of, web, things)
            else:
                told = self.check_paper(web, things, fewest[tuple(things)])
                self.assertTrue(let_by(web, things, told))

    def test_webs_of_six_places(self):
        for web, things, fewest in six_cases():
            if tuple(things) not in fewest:
                self.check_refused(NeverHome, levels_of, web, things)
            else:
                self.check_paper(web, things, fewest[tuple(things)])

    def test_things_at_home(self):
        for web in SIX + [ONE, LINE, BARE, FULL]:
            self.check_list(levels_of(web, list(range(web[0]))), [])

    def test_never_home_behind_too_many_behind_no_things(self):
        self.check_refused(NeverHome, levels_of, BARE, [1, 0, 2, 3])
        self.check_refused(NeverHome, levels_of, (6, [(0, 1), (2, 3), (4, 5)]), [1, 0, 3, 4, 5, 2])
        for web in [line_web(7), SIXTEEN, PARTS, (7, []), line_web(40)]:
            home = list(range(web[0]))
            self.check_refused(TooMany, levels_of, web, home)
            self.check_refused(TooMany, levels_of, web, turned(home, 1))
            for things in [[], home[1:], home + [web[0]], home[:-1] + [0]]:
                self.check_refused(NoThings, levels_of, web, things)
        for things in NO_THINGS:
            self.check_refused(NoThings, levels_of, LINE, things)
            self.check_refused(NoThings, levels_of, (5, []), things)

    def test_what_is_handed_in_stays_and_each_list_is_new(self):
        for web in [ONE, LINE, STAR, GRID]:
            self.told_by(levels_of, web, list(range(web[0]))[::-1])

    def test_what_was_handed_in_is_not_kept(self):
        web, things = ring_web(3), [2, 1, 0]
        told = levels_of(web, things)
        self.check_list(told, [[[2, 1, 0]]])
        web[1].remove((0, 2))
        self.assertEqual(len(levels_of(web, things)), 3)
        things[:] = [0, 1, 2]
        self.check_list(levels_of(web, things), [])
        self.check_list(told, [[[2, 1, 0]]])


class Point24(Case):
    def check_many(self, web, things, due):
        told = how_many_least(web, things)
        self.assertEqual(told, due)
        self.assertIs(told.__class__, int)

    def test_how_many(self):
        self.check_many(line_web(3), [2, 1, 0], 2)
        self.check_many(line_web(3), [1, 2, 0], 1)
        self.check_many(ring_web(3), [1, 2, 0], 3)
        self.check_many(STAR, [0, 2, 1, 3, 4, 5], 2)
        self.check_many(cube_web(2), [3, 2, 1, 0], 2)

    def test_things_at_home(self):
        for web in SIX + [ONE, LINE, BARE, FULL]:
            self.check_many(web, list(range(web[0])), 1)

    def test_all_things_on_all_small_webs(self):
        for web, things, fewest in small_cases():
            least = fewest.get(tuple(things))
            if least is None:
                self.check_many(web, things, 0)
            else:
                self.check_many(web, things, ways_home(web, things, least))
                if len(every_round(web)) ** least < 2000:
                    self.check_many(web, things, len(least_doings(web, things, least)))

    def test_webs_of_six_places(self):
        for web in SIX:
            fewest = fewest_rounds(web)
            for things in [[5, 4, 3, 2, 1, 0], [1, 2, 3, 4, 5, 0], [1, 0, 2, 3, 5, 4], [0, 2, 1, 5, 4, 3]]:
                least = fewest.get(tuple(things))
                self.check_many(web, things, 0 if least is None else ways_home(web, things, least))

    def test_refused(self):
        for web in [line_web(7), SIXTEEN, PARTS, (7, []), line_web(40)]:
            home = list(range(web[0]))
            self.check_refused(TooMany, how_many_least, web, home)
            self.check_refused(TooMany, how_many_least, web, turned(home, 1))
            for things in [[], home[1:], home + [web[0]], home[:-1] + [0]]:
                self.check_refused(NoThings, how_many_least, web, things)
        for things in NO_THINGS:
            self.check_refused(NoThings, how_many_least, LINE, things)
            self.check_refused(NoThings, how_many_least, (5, []), things)

    def test_what_is_handed_in_stays_and_is_not_kept(self):
        web, things = line_web(3), [2, 1, 0]
        self.assertEqual(self.told_by(how_many_least, web, things), 2)
        web[1].append((0, 2))
        web[1].sort()
        self.assertEqual(how_many_least(web, things), 1)
        web[1].clear()
        self.assertEqual(how_many_least(web, things), 0)


class Point4(Case):
    def test_just_one_is_told(self):
        for web, things, fewest in small_cases():
            kind, told = least_home(web, things)
            if never_home(web, things) is None:
                self.assertEqual(kind, "doing")
                self.check_leads_home(web, things, told)
                self.assertLessEqual(len(told), len(home_along(web, things)))
            else:
                self.assertEqual((kind, told), ("never", never_home(web, things)))
                self.assertNotIn(tuple(things), fewest)


if __name__ == "__main__":
    unittest.main()
