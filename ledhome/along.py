"""Things led home along a tree of a web, and things that never come home."""

from ledhome.errors import NeverHome
from ledhome.rounds import far_from_home
from ledhome.webs import neighbour_lists, steps_from


def home_along(web, things):
    """Tell a doing that leads things home along the tree of the web."""
    place = never_home(web, things)
    if place is not None:
        raise NeverHome(f"the thing on the place {place} never comes home")
    return in_rounds(exchanges_home(tree_of(web), things))


def tree_of(web):
    """Tell for each place its least neighbour that is nearer to the least place of its part, None for that."""
    many, _ = web
    beside = neighbour_lists(web)
    parents = {}
    for least in range(many):
        # Places of a part that has been gone through have their parents already.
        if least not in parents:
            steps = steps_from(web, least)
            for place, far in steps.items():
                nearer = [there for there in beside.get(place, []) if steps[there] < far]
                parents[place] = min(nearer, default=None)
    return [parents[place] for place in range(many)]


def never_home(web, things):
    """Tell the least place whose thing never comes home, or None."""
    never = [place for place, far in enumerate(far_from_home(web, things)) if far is None]
    return min(never, default=None)


def exchanges_home(parents, things):
    """Tell, one behind the other, exchanges along the tree that lead things home, place by place."""
    behind = list(things)
    exchanges = []
    # A place that has its thing is left alone from then on. The farthest one is always a leaf of
    # what is left of its part, so a way there has at most one exchange less than places are left.
    for home in farthest_first(parents):
        way = way_between(parents, behind.index(home), home)
        for here, there in zip(way, way[1:]):
            behind[here], behind[there] = behind[there], behind[here]
            exchanges.append((min(here, there), max(here, there)))
    return exchanges


def farthest_first(parents):
    """Tell all places, each one ahead of its parent."""
    far = [(len(way_up(parents, place)), place) for place in range(len(parents))]
    return [place for _, place in sorted(far, reverse=True)]


def way_up(parents, place):
    """Tell the places from this one to the least one of its part, by parents."""
    way = []
    while place is not None:
        way.append(place)
        place = parents[place]
    return way


def way_between(parents, one, other):
    """Tell the places along the tree from the one to the other, both of one part."""
    up, down = way_up(parents, one), way_up(parents, other)
    # Both go up to the same place: what they share is no part of the way, but for its first place.
    while len(up) > 1 and len(down) > 1 and up[-2] == down[-2]:
        up.pop()
        down.pop()
    return up + down[:-1][::-1]


def in_rounds(exchanges):
    """Put each exchange into the first round behind all those ahead of it that have one of its places."""
    rounds = []
    used = {}
    for one, other in exchanges:
        at = max(used.get(one, 0), used.get(other, 0))
        if at == len(rounds):
            rounds.append([])
        rounds[at].append((one, other))
        used[one] = used[other] = at + 1
    return [sorted(together) for together in rounds]
