"""Doings put together: moved ahead, without what is undone, and what they do to the things."""

from ledhome.along import in_rounds
from ledhome.errors import TooMany
from ledhome.least import all_rounds
from ledhome.rounds import check_doing

MOST_PAIRS_TWICE = 6


def moved_ahead(web, doing):
    """Tell the doing with each exchange in the first round behind all those ahead of it that have one of its places."""
    check_doing(web, doing)
    return in_rounds([pair for exchanges in doing for pair in exchanges])


def undone_left_out(web, doing):
    """Tell the doing, as many rounds, without the exchanges that are undone and those that undo them."""
    check_doing(web, doing)
    left = {}
    for at, exchanges in enumerate(doing):
        for pair in exchanges:
            add_or_leave_out(left, at, pair)
    rounds = [[] for _ in doing]
    for place, exchanges in left.items():
        for at, pair in exchanges:
            # An exchange is listed by both its places, and taken from the lesser one.
            if pair[0] == place:
                rounds[at].append(pair)
    return [sorted(exchanges) for exchanges in rounds]


def add_or_leave_out(left, at, pair):
    """Add the exchange of round at to those left, by place; or leave it out, with the one that it undoes.

    It comes to the same as to leave out, again and again, the first one that is undone: what stands
    between the two and has one of their places is left out ahead of them either way, and of three
    and more of one pair, one behind the other, the first two go.
    """
    one, other = pair
    here, there = left.setdefault(one, []), left.setdefault(other, [])
    if here and there and here[-1] == there[-1]:
        here.pop()
        there.pop()
    else:
        here.append((at, pair))
        there.append((at, pair))


def where_to(web, doing):
    """Tell for each place the place at which its thing stands behind the doing."""
    check_doing(web, doing)
    many, _ = web
    moves = moves_by(doing)
    return [moves.get(place, place) for place in range(many)]


def do_alike(web, one, other):
    """Tell whether each place's thing goes to the same place by both doings."""
    check_doing(web, one)
    check_doing(web, other)
    return moves_by(one) == moves_by(other)


def moves_by(doing):
    """Tell, by place, where its thing stands behind the doing; places that keep their things are left out."""
    stood = {}
    for exchanges in doing:
        for one, other in exchanges:
            stood[one], stood[other] = stood.get(other, other), stood.get(one, one)
    return {start: place for place, start in stood.items() if start != place}


def pairs_like_one(web):
    """Tell how many pairs of rounds, one behind the other, do alike to some round of the web."""
    _, pairs = web
    if len(pairs) > MOST_PAIRS_TWICE:
        raise TooMany(f"the web has {len(pairs)} pairs, not at most {MOST_PAIRS_TWICE}")
    rounds = all_rounds(web)
    by_one = [moves_by([exchanges]) for exchanges in rounds]
    by_two = [moves_by([first, second]) for first in rounds for second in rounds]
    return len([moves for moves in by_two if moves in by_one])
