"""What the tests share: webs of every kind, and slow answers that are worked out another way."""

from itertools import combinations, permutations, product

GREAT = 10 ** 29 + 7

LINE = (5, [(0, 1), (1, 2), (2, 3), (3, 4)])
RING = (5, [(0, 1), (0, 4), (1, 2), (2, 3), (3, 4)])
GRID = (6, [(0, 1), (0, 3), (1, 2), (1, 4), (2, 5), (3, 4), (4, 5)])
TREE = (6, [(0, 1), (0, 2), (1, 3), (1, 4), (2, 5)])
CUBE = (8, [(0, 1), (0, 2), (0, 4), (1, 3), (1, 5), (2, 3), (2, 6), (3, 7), (4, 5), (4, 6), (5, 7), (6, 7)])
PARTS = (7, [(0, 2), (1, 5), (2, 6), (3, 5)])
BARE = (4, [])
ONE = (1, [])
WEBS = [LINE, RING, GRID, TREE, CUBE, PARTS, BARE, ONE]


def small_webs(most):
    """Every web of at most so many places."""
    for many in range(1, most + 1):
        every = list(combinations(range(many), 2))
        for marks in product([False, True], repeat=len(every)):
            yield many, [pair for pair, mark in zip(every, marks) if mark]


def distances(web):
    """How far apart all places are, by way of each place in turn; None where there is no way."""
    many, pairs = web
    far = [[None] * many for _ in range(many)]
    for place in range(many):
        far[place][place] = 0
    for one, other in pairs:
        far[one][other] = far[other][one] = 1
    for by, one, other in product(range(many), repeat=3):
        if far[one][by] is not None and far[by][other] is not None:
            way = far[one][by] + far[by][other]
            if far[one][other] is None or way < far[one][other]:
                far[one][other] = way
    return far


def every_round(web):
    """Every round of a web: each choice of its pairs that has no place twice."""
    _, pairs = web
    rounds = []
    for many in range(len(pairs) + 1):
        for chosen in combinations(pairs, many):
            if all(not set(a) & set(b) for a, b in combinations(chosen, 2)):
                rounds.append(list(chosen))
    return rounds


def every_things(web):
    """All ways in which things can stand on a web."""
    return [list(things) for things in permutations(range(web[0]))]


def partners(exchanges):
    """By place, the place with which its thing is exchanged."""
    return {**{a: b for a, b in exchanges}, **{b: a for a, b in exchanges}}


def moved(things, exchanges):
    """The things behind a round, place by place."""
    beside = partners(exchanges)
    return [things[beside.get(place, place)] for place in range(len(things))]


def turned(things, by):
    """Things moved on by so many places, round about."""
    return things[by:] + things[:by]
