"""Points 37 to 40, and 2, 3 and 4 as they bear on these."""

import unittest
from itertools import combinations, product

from ledhome.errors import NoRound, TooMany
from ledhome.rounds import turned_about
from ledhome.shorter import do_alike, moved_ahead, pairs_like_one, undone_left_out, where_to
from ledhome.webs import cube_web, grid_web, line_web, ring_web, tree_web, web_of
from samples import (
    BARE, CUBE, FULL, GREAT, GREAT_WEBS, GRID, LINE, NO_ROUNDS, ONE, PARTS, RING, STAR, TREE, WEBS, Case,
    drawn_doing, every_round, many_doings, moved, moved_by, small_webs,
)

# The rounds of the drawn doings: of many rounds where a slow answer is worked out soon.
FEW, MANY = [1, 2, 3, 6, 10, 17], [1, 3, 6]

# A great web with few pairs, which may be handed in as it is told.
FAR = web_of(GREAT + 3, [(0, 1), (1, GREAT), (GREAT, GREAT + 1), (5, 8)])


def doings():
    """Doings of many kinds on webs of one place to forty."""
    for web in WEBS:
        for doing in many_doings(web, FEW):
            yield web, doing
    for web in GREAT_WEBS:
        for doing in many_doings(web, MANY):
            yield web, doing


def slow_ahead(doing):
    """Each exchange in the first round behind all those ahead of it that have one of its places, each looked at."""
    placed = []
    for pair in [pair for exchanges in doing for pair in exchanges]:
        ahead = [at for at, other in placed if set(other) & set(pair)]
        placed.append((max(ahead, default=-1) + 1, pair))
    rounds = max([at for at, _ in placed], default=-1) + 1
    return [sorted(pair for there, pair in placed if there == at) for at in range(rounds)]


def first_undone(exchanges):
    """Where the first exchange stands that is undone, and the one that undoes it, or None."""
    for at, (_, pair) in enumerate(exchanges):
        behind = [there for there in range(at + 1, len(exchanges)) if set(exchanges[there][1]) & set(pair)]
        if behind and exchanges[behind[0]][1] == pair:
            return at, behind[0]
    return None


def slow_undone(doing):
    """The doing without the first exchange that is undone and the one that undoes it, again and again."""
    left = [(at, pair) for at, exchanges in enumerate(doing) for pair in exchanges]
    while first_undone(left) is not None:
        at, there = first_undone(left)
        del left[there], left[at]
    return [[pair for there, pair in left if there == at] for at in range(len(doing))]


def slow_where(web, doing):
    """For each place the place at which its thing stands behind the doing."""
    behind = moved_by(list(range(web[0])), doing)
    return [behind.index(place) for place in range(web[0])]


class ShorterCase(Case):
    def check_no_rounds(self, function, web=LINE):
        """What is no round is refused at each place of a doing, ahead of rounds and behind them."""
        for wrong in NO_ROUNDS:
            for ahead, behind in [([], []), ([[(0, 1)]], []), ([], [[(0, 1)]]), ([[], [(1, 2)]], [[]])]:
                self.check_refused(NoRound, function, web, ahead + [wrong] + behind)
        self.check_refused(NoRound, function, web, [[(0, 1), (2, 3)]] * 299 + [[(1, 0)]])

    def check_no_rounds_of_other_webs(self, function):
        self.check_refused(NoRound, function, BARE, [[(0, 1)]])
        self.check_refused(NoRound, function, ONE, [[], [(0, 0)]])
        self.check_refused(NoRound, function, ONE, [[(0, 1)]])
        self.check_refused(NoRound, function, PARTS, [[(0, 2)], [(0, 1)]])
        self.check_refused(NoRound, function, FAR, [[(1, 2)]])
        self.check_refused(NoRound, function, STAR, [[(0, 1), (0, 2)]])

    def check_not_kept(self, function, due, other):
        """Neither the web nor the doing that was handed in is kept."""
        web, doing = web_of(3, [(0, 1), (1, 2)]), [[(0, 1)], [(1, 2)]]
        told = function(web, doing)
        doing[1].clear()
        self.check_list(told, due)
        self.check_list(function(web, doing), other)
        web[1].clear()
        self.check_refused(NoRound, function, web, doing)


class Point37(ShorterCase):
    def test_each_exchange_goes_ahead(self):
        self.check_list(moved_ahead(LINE, [[(0, 1)], [(2, 3)]]), [[(0, 1), (2, 3)]])
        self.check_list(moved_ahead(LINE, [[(2, 3)], [(0, 1)]]), [[(0, 1), (2, 3)]])
        self.check_list(moved_ahead(LINE, [[], [(3, 4)], [(0, 1)], [(1, 2)]]), [[(0, 1), (3, 4)], [(1, 2)]])
        self.check_list(moved_ahead(LINE, [[(0, 1)], [(1, 2)], [(3, 4)]]), [[(0, 1), (3, 4)], [(1, 2)]])

    def test_it_stays_behind_all_those_that_have_one_of_its_places(self):
        # The exchange of 2 and 3 waits for that of 1 and 2, not for that of 3 and 4 alone.
        self.check_list(
            moved_ahead(LINE, [[(0, 1), (3, 4)], [(1, 2)], [], [(2, 3)]]), [[(0, 1), (3, 4)], [(1, 2)], [(2, 3)]]
        )
        self.check_list(moved_ahead(LINE, [[(0, 1)], [(0, 1)]]), [[(0, 1)], [(0, 1)]])

    def test_it_goes_to_the_first_round_behind_them_not_to_one_that_is_free(self):
        # Round 0 has place 2 and 3 free, but the exchange of 1 and 2 ahead of it stands in round 1.
        self.check_list(moved_ahead(LINE, [[(0, 1)], [(1, 2)], [(2, 3)]]), [[(0, 1)], [(1, 2)], [(2, 3)]])

    def test_doings_without_exchanges(self):
        for web in WEBS:
            for many in [0, 1, 2, 7, 300]:
                self.check_list(moved_ahead(web, [[] for _ in range(many)]), [])

    def test_doings_of_many_kinds(self):
        for web, doing in doings():
            told = moved_ahead(web, doing)
            self.check_list(told, slow_ahead(doing))
            self.check_doing(told)
            self.assertLessEqual(len(told), len(doing))
            self.assertNotIn([], told)
            things = list(range(web[0]))
            self.assertEqual(moved_by(things, told), moved_by(things, doing))

    def test_all_doings_of_three_rounds_on_small_webs(self):
        for web in small_webs(3):
            for doing in map(list, product(every_round(web), repeat=3)):
                self.check_list(moved_ahead(web, doing), slow_ahead(doing))

    def test_three_hundred_rounds(self):
        for web in [LINE, RING, GRID, CUBE, line_web(40), STAR]:
            doing = drawn_doing(web, 300, 5)
            told = moved_ahead(web, doing)
            self.check_list(told, slow_ahead(doing))

    def test_a_great_web(self):
        doing = [[], [(1, GREAT)], [(5, 8)], [(GREAT, GREAT + 1)], [(0, 1)]]
        self.check_list(moved_ahead(FAR, doing), [[(1, GREAT), (5, 8)], [(0, 1), (GREAT, GREAT + 1)]])

    def test_no_rounds(self):
        self.check_no_rounds(moved_ahead)
        self.check_no_rounds_of_other_webs(moved_ahead)

    def test_what_is_handed_in_stays_and_each_list_is_new(self):
        for web in WEBS:
            for doing in many_doings(web, FEW):
                self.told_by(moved_ahead, web, doing)

    def test_what_was_handed_in_is_not_kept(self):
        self.check_not_kept(moved_ahead, [[(0, 1)], [(1, 2)]], [[(0, 1)]])


class Point38(ShorterCase):
    def test_an_exchange_that_is_undone(self):
        self.check_list(undone_left_out(LINE, [[(0, 1)], [(0, 1)]]), [[], []])
        self.check_list(undone_left_out(LINE, [[(0, 1), (2, 3)], [], [(0, 1)]]), [[(2, 3)], [], []])
        self.check_list(undone_left_out(LINE, [[(0, 1)], [(2, 3)], [(0, 1)]]), [[], [(2, 3)], []])

    def test_one_that_is_not_undone(self):
        # Another exchange has one of its places ahead of the same pair, be it the lesser one or the other.
        self.check_list(undone_left_out(LINE, [[(1, 2)], [(2, 3)], [(1, 2)]]), [[(1, 2)], [(2, 3)], [(1, 2)]])
        self.check_list(undone_left_out(LINE, [[(1, 2)], [(0, 1)], [(1, 2)]]), [[(1, 2)], [(0, 1)], [(1, 2)]])

    def test_again_and_again(self):
        doing = [[(0, 1)], [(1, 2)], [(1, 2)], [(0, 1)], [(3, 4)]]
        self.check_list(undone_left_out(LINE, doing), [[], [], [], [], [(3, 4)]])

    def test_of_three_the_last_one_is_left(self):
        self.check_list(undone_left_out(LINE, [[(0, 1)], [(0, 1)], [(0, 1)]]), [[], [], [(0, 1)]])
        self.check_list(
            undone_left_out(LINE, [[(0, 1)], [], [(0, 1)], [(0, 1), (2, 3)]]), [[], [], [], [(0, 1), (2, 3)]]
        )
        self.check_list(
            undone_left_out(LINE, [[(0, 1)], [(1, 2)], [(1, 2)], [(0, 1)], [(0, 1)]]), [[], [], [], [], [(0, 1)]]
        )

    def test_a_doing_with_itself_turned_about_behind_it(self):
        for web in WEBS + GREAT_WEBS:
            for rounds in [1, 2, 9]:
                doing = drawn_doing(web, rounds, 31)
                self.check_list(undone_left_out(web, doing + turned_about(doing)), [[]] * (2 * rounds))

    def test_doings_without_exchanges(self):
        for web in WEBS:
            for many in [0, 1, 2, 7, 300]:
                self.check_list(undone_left_out(web, [[] for _ in range(many)]), [[]] * many)

    def test_doings_of_many_kinds(self):
        for web, doing in doings():
            told = undone_left_out(web, doing)
            self.check_list(told, slow_undone(doing))
            self.check_doing(told)
            self.assertEqual(len(told), len(doing))
            things = list(range(web[0]))
            self.assertEqual(moved_by(things, told), moved_by(things, doing))

    def test_all_doings_of_few_rounds_on_small_webs(self):
        for web in small_webs(3):
            for doing in map(list, product(every_round(web), repeat=5)):
                self.check_list(undone_left_out(web, doing), slow_undone(doing))
        for web, rounds in [(line_web(3), 8), (line_web(4), 6), (cube_web(2), 5), (tree_web([0, 0, 0]), 6)]:
            for doing in map(list, product(every_round(web), repeat=rounds)):
                self.assertEqual(undone_left_out(web, doing), slow_undone(doing))

    def test_three_hundred_rounds(self):
        for web in [line_web(3), LINE, RING, PARTS]:
            doing = drawn_doing(web, 300, 8)
            told = undone_left_out(web, doing)
            self.check_list(told, slow_undone(doing))
        for web in [line_web(40), CUBE, FULL]:
            doing = drawn_doing(web, 150, 9)
            self.check_list(undone_left_out(web, doing + turned_about(doing)), [[]] * 300)

    def test_a_great_web(self):
        doing = [[(1, GREAT), (5, 8)], [(GREAT, GREAT + 1)], [(GREAT, GREAT + 1)], [(1, GREAT)], [(0, 1)]]
        self.check_list(undone_left_out(FAR, doing), [[(5, 8)], [], [], [], [(0, 1)]])

    def test_no_rounds(self):
        self.check_no_rounds(undone_left_out)
        self.check_no_rounds_of_other_webs(undone_left_out)

    def test_what_is_handed_in_stays_and_each_list_is_new(self):
        for web in WEBS:
            for doing in many_doings(web, FEW):
                self.told_by(undone_left_out, web, doing)

    def test_what_was_handed_in_is_not_kept(self):
        self.check_not_kept(undone_left_out, [[(0, 1)], [(1, 2)]], [[(0, 1)], []])


class Point39Where(ShorterCase):
    def test_where_things_go(self):
        self.check_list(where_to(LINE, [[(0, 1)], [(1, 2)]]), [2, 0, 1, 3, 4])
        self.check_list(where_to(LINE, [[(1, 2)], [(0, 1)]]), [1, 2, 0, 3, 4])
        self.check_list(where_to(LINE, [[(0, 1), (3, 4)]]), [1, 0, 2, 4, 3])
        self.check_list(where_to(ONE, [[]]), [0])

    def test_doings_without_exchanges(self):
        for web in WEBS:
            for many in [0, 1, 300]:
                self.check_list(where_to(web, [[] for _ in range(many)]), list(range(web[0])))

    def test_doings_of_many_kinds(self):
        for web, doing in doings():
            self.check_list(where_to(web, doing), slow_where(web, doing))

    def test_three_hundred_rounds(self):
        for web in [LINE, CUBE, FULL, line_web(40)]:
            doing = drawn_doing(web, 300, 4)
            self.check_list(where_to(web, doing), slow_where(web, doing))

    def test_no_rounds(self):
        self.check_no_rounds(where_to)
        self.check_no_rounds_of_other_webs(where_to)

    def test_what_is_handed_in_stays_and_each_list_is_new(self):
        for web in WEBS:
            for doing in many_doings(web, FEW):
                self.told_by(where_to, web, doing)

    def test_what_was_handed_in_is_not_kept(self):
        self.check_not_kept(where_to, [2, 0, 1], [1, 0, 2])


class Point39Alike(ShorterCase):
    def test_alike(self):
        self.assertIs(do_alike(LINE, [], []), True)
        self.assertIs(do_alike(LINE, [], [[], []]), True)
        self.assertIs(do_alike(LINE, [[(0, 1)], [(2, 3)]], [[(0, 1), (2, 3)]]), True)
        self.assertIs(do_alike(LINE, [[(0, 1)], [(0, 1)]], []), True)
        self.assertIs(do_alike(LINE, [[(0, 1)], [(1, 2)], [(0, 1)]], [[(1, 2)], [(0, 1)], [(1, 2)]]), True)

    def test_not_alike(self):
        self.assertIs(do_alike(LINE, [[(0, 1)]], []), False)
        self.assertIs(do_alike(LINE, [], [[(0, 1)]]), False)
        self.assertIs(do_alike(LINE, [[(0, 1)]], [[(1, 2)]]), False)
        # The same exchanges, and behind both the same places have changed, but not the same way about.
        self.assertIs(do_alike(LINE, [[(0, 1)], [(1, 2)]], [[(1, 2)], [(0, 1)]]), False)
        self.assertIs(do_alike(CUBE, [[(0, 1), (2, 3)]], [[(0, 2), (1, 3)]]), False)

    def test_all_pairs_of_doings_of_few_rounds_on_small_webs(self):
        for web in small_webs(3):
            rounds = every_round(web)
            every = [list(doing) for many in range(3) for doing in product(rounds, repeat=many)]
            where = [slow_where(web, doing) for doing in every]
            for one, other in product(range(len(every)), repeat=2):
                self.assertIs(do_alike(web, every[one], every[other]), where[one] == where[other])

    def test_what_is_told_of_a_doing_does_alike(self):
        for web, doing in doings():
            self.assertIs(do_alike(web, doing, moved_ahead(web, doing)), True)
            self.assertIs(do_alike(web, undone_left_out(web, doing), doing), True)
            if web[1]:
                self.assertIs(do_alike(web, doing, doing + [[web[1][-1]]]), False)
                self.assertIs(do_alike(web, [[web[1][0]]] + doing, doing), False)

    def test_a_great_web(self):
        self.assertIs(do_alike(FAR, [[(0, 1), (5, 8)]], [[(5, 8)], [(0, 1)]]), True)
        self.assertIs(do_alike(FAR, [[(0, 1)], [(1, GREAT)]], [[(1, GREAT)], [(0, 1)]]), False)

    def test_no_rounds_of_the_one_of_the_other_and_of_both(self):
        self.check_no_rounds(lambda web, doing: do_alike(web, doing, []))
        self.check_no_rounds(lambda web, doing: do_alike(web, [[(0, 1)]], doing))
        self.check_no_rounds(lambda web, doing: do_alike(web, doing, doing))
        self.check_no_rounds_of_other_webs(lambda web, doing: do_alike(web, [[]], doing))
        self.check_no_rounds_of_other_webs(lambda web, doing: do_alike(web, doing, [[]]))

    def test_what_is_handed_in_stays_and_is_not_kept(self):
        for web in WEBS:
            for doing in many_doings(web, [1, 4]):
                self.assertIs(self.told_by(do_alike, web, doing, list(doing)), True)
        web, one, other = web_of(3, [(0, 1), (1, 2)]), [[(0, 1)]], [[(1, 2)]]
        self.assertIs(do_alike(web, one, other), False)
        other[0][:] = [(0, 1)]
        self.assertIs(do_alike(web, one, other), True)
        web[1].pop(0)
        self.check_refused(NoRound, do_alike, web, one, other)


class Point40(ShorterCase):
    def check_many(self, web, due):
        told = pairs_like_one(web)
        self.assertEqual(told, due)
        self.assertIs(told.__class__, int)

    def test_few_pairs(self):
        self.check_many(ONE, 1)
        self.check_many(BARE, 1)
        self.check_many(line_web(2), 4)
        # Of nine pairs of rounds two do like none: one pair behind the other, either way about.
        self.check_many(line_web(3), 7)
        self.check_many(ring_web(3), 10)

    def test_pairs_far_from_one_another(self):
        for many in range(7):
            self.check_many((40, [(3 * k, 3 * k + 1) for k in range(many)]), 4 ** many)

    def test_rounds_on_all_small_webs(self):
        for web in small_webs(4):
            self.check_slowly(web)

    def test_webs_of_up_to_six_pairs(self):
        for web in [
            LINE, RING, TREE, PARTS, cube_web(2), line_web(7), ring_web(6), tree_web([0] * 6), grid_web(2, 2),
            web_of(4, list(combinations(range(4), 2))), web_of(40, [(0, 39), (39, 20), (20, 1), (5, 6), (6, 7)]),
            web_of(12, [(k, k + 6) for k in range(6)]), web_of(9, [(0, 1), (1, 2), (0, 2), (6, 7), (7, 8), (6, 8)]),
        ]:
            self.check_slowly(web)

    def check_slowly(self, web):
        home, rounds = list(range(web[0])), every_round(web)
        behind = [moved(home, exchanges) for exchanges in rounds]
        self.check_many(web, sum(moved(there, exchanges) in behind for there in behind for exchanges in rounds))

    def test_a_great_web(self):
        self.check_many(web_of(GREAT + 1, [(0, 1), (1, GREAT)]), 7)

    def test_too_many(self):
        for web in [GRID, CUBE, line_web(8), ring_web(7), tree_web([0] * 7), (14, [(k, k + 7) for k in range(7)])]:
            self.check_refused(TooMany, pairs_like_one, web)
        for web in GREAT_WEBS:
            self.check_refused(TooMany, pairs_like_one, web)

    def test_what_is_handed_in_stays_and_is_not_kept(self):
        web = line_web(3)
        self.assertEqual(self.told_by(pairs_like_one, web), 7)
        web[1].pop()
        self.assertEqual(self.told_by(pairs_like_one, web), 4)


if __name__ == "__main__":
    unittest.main()
