"""Two webs side by side, with things and doings of both, and two webs crossed."""

from ledhome.rounds import check_doing, check_things
from ledhome.webs import web_of


def webs_beside(one, other):
    """Tell the web of the one's places and, behind them, the other's, with no pairs between."""
    many, pairs = one
    more, further = other
    return web_of(many + more, pairs + moved_on(further, many))


def moved_on(exchanges, many):
    """Tell the pairs of the places that stand so many further on."""
    return [(one + many, other + many) for one, other in exchanges]


def things_beside(one, other, things, others):
    """Tell the things of both webs on both side by side."""
    check_things(one, things)
    check_things(other, others)
    many, _ = one
    return things + [home + many for home in others]


def doing_beside(one, other, doing, others):
    """Tell the doing that does both webs' doings on both side by side, round by round at once."""
    check_doing(one, doing)
    check_doing(other, others)
    many, _ = one
    longer = max(len(doing), len(others))
    # All places of the one web are lesser than those of the other, so rounds stay sorted.
    return [round_at(doing, at) + moved_on(round_at(others, at), many) for at in range(longer)]


def round_at(doing, at):
    """Tell the round of the doing, or the empty one behind its end."""
    if at < len(doing):
        return doing[at]
    return []


def web_crossed(one, other):
    """Tell the web with a place for each place of the one and each of the other."""
    many, pairs = one
    more, further = other
    alike_first = [(place * more + here, place * more + there) for here, there in further for place in range(many)]
    alike_last = [(here * more + place, there * more + place) for here, there in pairs for place in range(more)]
    return web_of(many * more, alike_first + alike_last)
