"""What the tests share: webs of every kind, slow answers that are worked out another way, and checks."""

import copy
import unittest
from itertools import combinations, permutations, product

from ledhome.webs import cube_web, grid_web, line_web, ring_web, tree_web, web_of

GREAT = 10 ** 29 + 7

LINE = (5, [(0, 1), (1, 2), (2, 3), (3, 4)])
RING = (5, [(0, 1), (0, 4), (1, 2), (2, 3), (3, 4)])
GRID = (6, [(0, 1), (0, 3), (1, 2), (1, 4), (2, 5), (3, 4), (4, 5)])
TREE = (6, [(0, 1), (0, 2), (1, 3), (1, 4), (2, 5)])
CUBE = (8, [(0, 1), (0, 2), (0, 4), (1, 3), (1, 5), (2, 3), (2, 6), (3, 7), (4, 5), (4, 6), (5, 7), (6, 7)])
PARTS = (7, [(0, 2), (1, 5), (2, 6), (3, 5)])
BARE = (4, [])
ONE = (1, [])
WEBS = [LINE, RING, GRID, TREE, CUBE, PARTS, BARE, ONE]

STAR = tree_web([0] * 39)
FULL = web_of(40, list(combinations(range(40), 2)))
GREAT_WEBS = [
    line_web(40), ring_web(40), grid_web(5, 8), cube_web(5), STAR, FULL, web_of(40, [(k, 39) for k in range(39)]),
    tree_web([k // 2 for k in range(39)]), tree_web([max(0, k - 3) for k in range(39)]),
    web_of(40, [(k, k + 5) for k in range(35)] + [(k, k * 3 % 40) for k in range(1, 20)] + [(0, 39)]),
]

# What are no things of a web of five places.
NO_THINGS = [
    [], [0, 1, 2, 3], [1, 2, 3, 4], [0, 1, 2, 3, 4, 5], [0, 1, 2, 3, 4, 4], [0, 1, 2, 3, 5], [5, 4, 3, 2, 1],
    [1, 2, 3, 4, 5], [0, 1, 2, 3, -1], [0, 1, 2, 3, 3], [0, 0, 2, 3, 4], [4, 4, 4, 4, 4], [GREAT, 1, 2, 3, 4],
    [-GREAT, 1, 2, 3, 4],
]

# What is no round of the line of five places, each for one reason.
NO_ROUNDS = [
    [(2, 3), (0, 1)],
    [(1, 0)],
    [(0, 1), (3, 2)],
    [(0, 1), (0, 1)],
    [(0, 1), (2, 3), (2, 3)],
    [(0, 1), (1, 2)],
    [(0, 2)],
    [(0, 1), (2, 4)],
    [(2, 2)],
    [(4, 5)],
    [(-1, 0)],
    [(GREAT, GREAT + 1)],
    [(-GREAT, 3)],
    [(0, 1), (4, GREAT)],
]


def small_webs(most):
    """Every web of at most so many places."""
    for many in range(1, most + 1):
        every = list(combinations(range(many), 2))
        for marks in product([False, True], repeat=len(every)):
            yield many, [pair for pair, mark in zip(every, marks) if mark]


def distances(web):
    """How far apart all places are, by way of each place in turn; None where there is no way."""
    many, pairs = web
    far = [[None] * many for _ in range(many)]
    for place in range(many):
        far[place][place] = 0
    for one, other in pairs:
        far[one][other] = far[other][one] = 1
    for by, one, other in product(range(many), repeat=3):
        if far[one][by] is not None and far[by][other] is not None:
            way = far[one][by] + far[by][other]
            if far[one][other] is None or way < far[one][other]:
                far[one][other] = way
    return far


def every_round(web):
    """Every round of a web: each choice of its pairs that has no place twice."""
    _, pairs = web
    rounds = []
    for many in range(len(pairs) + 1):
        for chosen in combinations(pairs, many):
            if all(not set(a) & set(b) for a, b in combinations(chosen, 2)):
                rounds.append(list(chosen))
    return rounds


def every_things(web):
    """All ways in which things can stand on a web."""
    return [list(things) for things in permutations(range(web[0]))]


def partners(exchanges):
    """By place, the place with which its thing is exchanged."""
    return {**{a: b for a, b in exchanges}, **{b: a for a, b in exchanges}}


def moved(things, exchanges):
    """The things behind a round, place by place."""
    beside = partners(exchanges)
    return [things[beside.get(place, place)] for place in range(len(things))]


def turned(things, by):
    """Things moved on by so many places, round about."""
    return things[by:] + things[:by]


def shuffled(items, seed):
    """The items in an order that each seed settles, the same on every Python."""
    rest, order, state = list(items), [], seed
    while rest:
        state = (state * 6364136223846793005 + 1442695040888963407) % 2 ** 64
        order.append(rest.pop((state >> 33) % len(rest)))
    return order


def many_things(many):
    """Things on so many places: at home, from behind, moved on, one far from home, some exchanged, in any order."""
    home = list(range(many))
    yield home
    yield home[::-1]
    for by in sorted({1 % many, 2 % many, many // 2, many - 1}):
        yield turned(home, by)
    for at in sorted({0, many // 3, many - 1}):
        yield home[1:at + 1] + [0] + home[at + 1:]
        yield [{0: at, at: 0}.get(place, place) for place in home]
    yield [place ^ 1 if place | 1 < many else place for place in home]
    yield home[:many // 2][::-1] + home[many // 2:]
    yield home[many // 2:] + home[:many // 2][::-1]
    for seed in range(4):
        yield shuffled(home, seed)


def looks(things, start):
    """The looks, place by place, many more of them than are needed, without those at the end that exchange nothing."""
    behind, doing = list(things), []
    for look in range(start, start + 2 * len(things) + 2):
        pairs = []
        for place in range(len(things) - 1):
            if place % 2 == look % 2 and behind[place] > behind[place + 1]:
                behind[place:place + 2] = behind[place + 1], behind[place]
                pairs.append((place, place + 1))
        doing.append(pairs)
    while doing and doing[-1] == []:
        doing.pop()
    return doing


def drawn_doing(web, rounds, seed):
    """Rounds of a web, full ones, short ones and empty ones, that each seed settles."""
    doing = []
    for at in range(rounds):
        state = seed * 1009 + at
        most, used, exchanges = shuffled(range(web[0] // 2 + 1), state)[0], set(), []
        for pair in shuffled(web[1], state):
            if len(exchanges) < most and not used & set(pair):
                exchanges.append(pair)
                used |= set(pair)
        doing.append(sorted(exchanges))
    return doing


def many_doings(web, rounds):
    """Doings of a web: none and empty rounds alone, drawn ones, rounds done twice, ones undone behind it."""
    yield []
    yield [[]]
    yield [[], [], []]
    for seed, most in enumerate(rounds):
        drawn = drawn_doing(web, most, seed)
        yield drawn
        yield [exchanges for exchanges in drawn for _ in range(2)]
        yield [exchanges for at, exchanges in enumerate(drawn) for _ in range(1 + at % 3)]
        yield drawn + drawn[::-1]
        yield drawn + [[]] + drawn[::-1] + drawn[:most // 2]
        yield drawn[:most // 2] + drawn[::-1] + drawn


def lists_in(told):
    """Each list that stands in what is told, itself among them, as often as it stands there."""
    if told.__class__ is list:
        yield told
    if told.__class__ in (list, tuple):
        for item in told:
            yield from lists_in(item)


def moved_by(things, doing):
    """The things behind a doing."""
    for exchanges in doing:
        things = moved(things, exchanges)
    return things


def fewest_rounds(web):
    """By things, as tuples, the fewest rounds that lead them home; what never comes home is left out."""
    rounds = every_round(web)
    fewest, edge, far = {}, [tuple(range(web[0]))], 0
    while edge:
        fewest.update({there: far for there in edge})
        far += 1
        edge = {tuple(moved(there, exchanges)) for there in edge for exchanges in rounds} - set(fewest)
    return fewest


def least_doings(web, things, fewest):
    """Every doing of so many rounds that leads home, the first one first."""
    home = list(range(web[0]))
    doings = product(sorted(every_round(web)), repeat=fewest)
    return [list(doing) for doing in doings if moved_by(things, doing) == home]


class Case(unittest.TestCase):
    """Checks of what is told, and of refusals."""

    def check_refused(self, refusal, function, *handed):
        """A refusal is of just the class that is named, and leaves what was handed in as it was."""
        before = copy.deepcopy(handed)
        with self.assertRaises(refusal) as caught:
            function(*handed)
        self.assertIs(caught.exception.__class__, refusal)
        self.assertEqual(handed, before)

    def check_list(self, told, due):
        self.assertEqual(told, due)
        self.assertIs(told.__class__, list)

    def told_by(self, function, *handed):
        """What is told: the asker's own, with nothing that was handed in changed, kept or told again."""
        before = copy.deepcopy(handed)
        told = function(*handed)
        due = copy.deepcopy(told)
        self.assertEqual(handed, before)
        again = function(*handed)
        self.check_apart((told, again), handed)
        for one in list(lists_in(told)):
            one.append("changed")
        self.assertEqual(handed, before)
        self.assertEqual(again, due)
        self.assertEqual(function(*handed), due)
        return due

    def check_apart(self, told, handed):
        """No list stands at two places of what is told, and none of them was handed in."""
        places = [id(one) for one in lists_in(told)]
        self.assertEqual(len(places), len(set(places)))
        self.assertFalse(set(places) & {id(one) for one in lists_in(handed)})

    def check_leads_home(self, web, things, doing):
        """A list of rounds of the web, each a sorted list of tuples, that lead the things home."""
        self.check_doing(doing)
        known = set(web[1])
        for exchanges in doing:
            self.assertEqual(exchanges, sorted(exchanges))
            self.assertLessEqual(set(exchanges), known)
            places = [place for pair in exchanges for place in pair]
            self.assertEqual(len(places), len(set(places)))
        self.assertEqual(moved_by(list(things), doing), list(range(web[0])))

    def check_doing(self, doing):
        self.assertIs(doing.__class__, list)
        for exchanges in doing:
            self.assertIs(exchanges.__class__, list)
            for pair in exchanges:
                self.assertIs(pair.__class__, tuple)
                self.assertEqual([place.__class__ for place in pair], [int, int])
