"""Points 32 and 33, and 2, 3 and 4 as they bear on these."""

import unittest

from ledhome.errors import NoThings
from ledhome.rings import ring_home, shorter_ways
from ledhome.webs import ring_web
from samples import GREAT, Case, every_things, looks, many_things, shuffled, turned

NO_RING = [
    [], [0], [1], [0, 1], [1, 0], [0, 0], [1, 2], [GREAT], [0, 1, 3], [3, 2, 1], [1, 1, 2], [0, 0, 0], [0, 1, -1],
    [-1, 0, 1], [GREAT, 1, 2], [0, -GREAT, 2], [0, 1, 2, 4], [0, 1, 2, 2], [3, 2, 1, 3], list(range(1, 41)),
    list(range(39)) + [38], list(range(39)) + [40], list(range(39)) + [-1],
]


def things_on_rings():
    """All orders of few things on rings, and many of more."""
    for many in [3, 4, 5, 6]:
        yield from every_things((many, []))
    for many in [*range(7, 15), 21, 32, 39, 40]:
        yield from many_things(many)
    for many in [7, 12, 39]:
        yield from (turned(list(range(many)), by) for by in range(1, many))


def doing_cut_ahead_of(things, place):
    """The doing of the line that begins at this place, with its places named as those of the ring."""
    many = len(things)
    named = [(place + spot) % many for spot in range(many)]
    line = [named.index(things[there]) for there in named]
    first, second = looks(line, 0), looks(line, 1)
    doing = second if len(second) < len(first) else first
    return [sorted(tuple(sorted((named[a], named[b]))) for a, b in exchanges) for exchanges in doing]


def steps_home(things, place, step):
    """How many steps of this kind the thing on the place has to go home."""
    steps, there = 0, place
    while there != things[place]:
        there = (there + step) % len(things)
        steps += 1
    return steps


class Point32(Case):
    def test_cut_where_the_doing_is_shortest(self):
        # The first and the last place of the line that begins at 0 are neighbours on the ring.
        self.check_list(ring_home([2, 1, 0]), [[(0, 2)]])
        self.check_list(ring_home([4, 1, 2, 3, 0]), [[(0, 4)]])
        self.check_list(ring_home([0, 2, 1, 3]), [[(1, 2)]])
        self.check_list(ring_home([5, 2, 1, 4, 3, 0]), [[(0, 5), (1, 2), (3, 4)]])

    def test_the_pair_that_closes_the_ring_is_sorted_among_the_others(self):
        self.check_list(ring_home([3, 2, 1, 0]), [[(0, 3), (1, 2)]])
        self.check_list(ring_home([0, 1, 5, 4, 3, 2]), [[(0, 5), (1, 2), (3, 4)], [(0, 1)], [(0, 5), (1, 2)]])

    def test_the_least_of_several_places(self):
        # Behind two rounds all is at home wherever the ring is cut, and the ways there are unlike.
        self.check_list(ring_home([1, 2, 0]), [[(1, 2)], [(0, 1)]])
        self.check_list(ring_home([2, 0, 1]), [[(0, 1)], [(1, 2)]])

    def test_things_at_home(self):
        for many in range(3, 41):
            self.check_list(ring_home(list(range(many))), [])

    def test_the_shortest_of_all_cuts_leads_home(self):
        cuts = set()
        for things in things_on_rings():
            doings = [doing_cut_ahead_of(things, place) for place in range(len(things))]
            least = min(map(len, doings))
            places = [place for place, doing in enumerate(doings) if len(doing) == least]
            told = ring_home(things)
            self.check_list(told, doings[places[0]])
            self.check_leads_home(ring_web(len(things)), things, told)
            cuts.add((places[0] == 0, len(places) > 1 and doings[places[0]] != doings[places[1]]))
        self.assertEqual(len(cuts), 4)

    def test_rings_of_every_number_of_places(self):
        for many in range(3, 41):
            things = shuffled(range(many), many)
            self.check_leads_home(ring_web(many), things, ring_home(things))

    def test_rings_beyond_forty_places(self):
        for seed, many in enumerate([41, 50, 80]):
            things = shuffled(range(many), seed)
            self.check_leads_home(ring_web(many), things, ring_home(things))

    def test_refused(self):
        for things in NO_RING:
            self.check_refused(NoThings, ring_home, things)

    def test_what_is_handed_in_stays_and_each_list_is_new(self):
        for many in [3, 4, 5, 9, 40]:
            for things in many_things(many):
                self.told_by(ring_home, things)

    def test_what_was_handed_in_is_not_kept(self):
        things = [2, 1, 0]
        told = ring_home(things)
        things[:] = [1, 0, 2]
        self.assertEqual(told, [[(0, 2)]])
        self.assertEqual(ring_home(things), [[(0, 1)]])


class Point33(Case):
    def test_ways(self):
        self.check_list(shorter_ways([1, 2, 0]), [1, 1, 1])
        self.check_list(shorter_ways([2, 0, 1]), [-1, -1, -1])
        self.check_list(shorter_ways([0, 4, 2, 3, 1]), [0, -2, 0, 0, 2])
        self.check_list(shorter_ways([4, 1, 2, 3, 0]), [-1, 0, 0, 0, 1])

    def test_as_long_both_ways_is_rising(self):
        self.check_list(shorter_ways([2, 3, 0, 1]), [2, 2, 2, 2])
        self.check_list(shorter_ways(turned(list(range(40)), 20)), [20] * 40)
        self.check_list(shorter_ways(turned(list(range(40)), 19)), [19] * 40)
        self.check_list(shorter_ways(turned(list(range(40)), 21)), [-19] * 40)
        self.check_list(shorter_ways(turned(list(range(39)), 19)), [19] * 39)
        self.check_list(shorter_ways(turned(list(range(39)), 20)), [-19] * 39)

    def test_things_at_home(self):
        for many in range(3, 41):
            self.check_list(shorter_ways(list(range(many))), [0] * many)

    def test_things_in_many_orders(self):
        for things in things_on_rings():
            due = []
            for place in range(len(things)):
                rising, falling = steps_home(things, place, 1), steps_home(things, place, -1)
                due.append(rising if rising <= falling else -falling)
            self.check_list(shorter_ways(things), due)

    def test_refused(self):
        for things in NO_RING:
            self.check_refused(NoThings, shorter_ways, things)

    def test_what_is_handed_in_stays_and_each_list_is_new(self):
        for many in [3, 4, 5, 9, 40]:
            for things in many_things(many):
                self.told_by(shorter_ways, things)

    def test_what_was_handed_in_is_not_kept(self):
        things = [2, 1, 0]
        told = shorter_ways(things)
        things[:] = [0, 1, 2]
        self.assertEqual(told, [-1, 0, 1])
        self.assertEqual(shorter_ways(things), [0, 0, 0])


if __name__ == "__main__":
    unittest.main()
