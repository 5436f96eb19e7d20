"""Points 13 and 14, and 2, 3 and 4 as they bear on these."""

import unittest
from itertools import permutations

from ledhome.errors import NoThings
from ledhome.lines import line_first, line_home
from ledhome.webs import line_web
from samples import GREAT, Case, looks, many_things, shuffled, turned

NO_THINGS = [
    [], [1], [-1], [GREAT], [0, 0], [1, 1], [1, 2], [0, 2], [2, 0], [0, -1], [-1, 0], [-1, -2], [GREAT, 0], [0, -GREAT],
    [0, 1, 3], [3, 2, 1], [2, 1, 1], [2, 2, 0], [0, 1, -1], [4, 3, 2, 0], [3, 1, 0, 1], list(range(1, 81)),
    list(range(79)) + [80], list(range(79)) + [78], list(range(-1, 79)),
]

# Far more things than those that a doing of every order could be looked at for.
GREAT_MANY = [8, 9, 16, 25, 39, 40, 41, 63, 79, 80]


def all_orders():
    """All orders of few things, and many of many."""
    for many in range(1, 8):
        yield from map(list, permutations(range(many)))
    for many in GREAT_MANY:
        yield from many_things(many)


class Point13(Case):
    def test_looks_by_turns(self):
        self.check_list(line_first([1, 0]), [[(0, 1)]])
        self.check_list(line_first([2, 1, 0]), [[(0, 1)], [(1, 2)], [(0, 1)]])
        self.check_list(line_first([1, 0, 3, 2, 4]), [[(0, 1), (2, 3)]])
        self.check_list(line_first([1, 2, 0]), [[], [(1, 2)], [(0, 1)]])
        self.check_list(line_first([3, 2, 1, 0]), [[(0, 1), (2, 3)], [(1, 2)], [(0, 1), (2, 3)], [(1, 2)]])

    def test_things_at_home(self):
        for many in range(1, 81):
            self.check_list(line_first(list(range(many))), [])

    def test_a_look_without_an_exchange_is_told_as_a_round(self):
        self.check_list(line_first([0, 2, 1]), [[], [(1, 2)]])
        self.check_list(line_first([0, 2, 1, 4, 3]), [[], [(1, 2), (3, 4)]])
        self.check_list(line_first(list(range(78)) + [79, 78]), [[(78, 79)]])
        self.check_list(line_first(list(range(77)) + [78, 77]), [[], [(77, 78)]])

    def test_no_look_stands_behind_the_last_one_that_exchanges(self):
        for things in all_orders():
            doing = line_first(things)
            self.assertNotEqual(doing[-1:], [[]])

    def test_the_looks_of_all_orders(self):
        for things in all_orders():
            self.check_list(line_first(things), looks(things, 0))

    def test_it_leads_home_in_no_more_rounds_than_places(self):
        for things in all_orders():
            doing = line_first(things)
            self.check_leads_home(line_web(len(things)), things, doing)
            self.assertLessEqual(len(doing), len(things))

    def test_the_bound_is_come_to(self):
        for many in range(3, 81):
            self.assertEqual(len(line_first(list(range(many))[::-1])), many)

    def test_refused(self):
        for things in NO_THINGS:
            self.check_refused(NoThings, line_first, things)

    def test_what_is_handed_in_stays_and_each_list_is_new(self):
        for things in [[0], [1, 0], [0, 2, 1], [3, 2, 1, 0], turned(list(range(40)), 7)]:
            self.told_by(line_first, things)

    def test_what_was_handed_in_is_not_kept(self):
        things = [0, 2, 1]
        told = line_first(things)
        things[:] = [1, 0, 2]
        self.assertEqual(told, [[], [(1, 2)]])
        self.assertEqual(line_first(things), [[(0, 1)]])


class Point14(Case):
    def test_the_shorter_one(self):
        self.check_list(line_home([0, 2, 1]), [[(1, 2)]])
        self.check_list(line_home([1, 0, 2]), [[(0, 1)]])
        self.check_list(line_home([1, 2, 0]), [[(1, 2)], [(0, 1)]])
        self.check_list(line_home([2, 0, 1]), [[(0, 1)], [(1, 2)]])
        self.check_list(line_home([0, 2, 1, 4, 3]), [[(1, 2), (3, 4)]])

    def test_the_first_one_where_they_are_as_long(self):
        self.check_list(line_home([2, 1, 0]), [[(0, 1)], [(1, 2)], [(0, 1)]])
        self.check_list(line_home([3, 2, 1, 0]), [[(0, 1), (2, 3)], [(1, 2)], [(0, 1), (2, 3)], [(1, 2)]])

    def test_things_at_home(self):
        for many in range(1, 81):
            self.check_list(line_home(list(range(many))), [])

    def test_all_orders(self):
        shorter = set()
        for things in all_orders():
            first, second = looks(things, 0), looks(things, 1)
            due = second if len(second) < len(first) else first
            self.check_list(line_home(things), due)
            shorter.add((len(first) > len(second)) - (len(first) < len(second)))
        self.assertEqual(shorter, {-1, 0, 1})

    def test_it_leads_home_in_no_more_rounds_than_places(self):
        for things in all_orders():
            doing = line_home(things)
            self.check_leads_home(line_web(len(things)), things, doing)
            self.assertLessEqual(len(doing), len(things))

    def test_eighty_things_in_many_orders(self):
        for seed in range(20, 40):
            things = shuffled(range(80), seed)
            doing = line_home(things)
            self.check_leads_home(line_web(80), things, doing)
            self.assertLessEqual(len(doing), 80)

    def test_refused(self):
        for things in NO_THINGS:
            self.check_refused(NoThings, line_home, things)

    def test_what_is_handed_in_stays_and_each_list_is_new(self):
        for things in [[0], [1, 0], [0, 2, 1], [3, 2, 1, 0], turned(list(range(40)), 7)]:
            self.told_by(line_home, things)

    def test_what_was_handed_in_is_not_kept(self):
        things = [0, 2, 1]
        told = line_home(things)
        things[:] = [2, 1, 0]
        self.assertEqual(told, [[(1, 2)]])
        self.assertEqual(line_home(things), [[(0, 1)], [(1, 2)], [(0, 1)]])


if __name__ == "__main__":
    unittest.main()
