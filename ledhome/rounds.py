"""Rounds of exchanges, and where the things stand behind them."""

from ledhome.errors import NoRound, NoThings
from ledhome.webs import how_far


def behind_round(web, things, exchanges):
    """Tell the things behind one round."""
    return behind_doing(web, things, [exchanges])


def behind_doing(web, things, doing):
    """Tell the things behind the rounds of a doing."""
    check_things(web, things)
    check_doing(web, doing)
    behind = list(things)
    for exchanges in doing:
        behind = exchanged(behind, exchanges)
    return behind


def leads_home(web, things, doing):
    """Tell whether these lists are rounds of the web behind which each thing stands at home."""
    check_things(web, things)
    behind = things
    for exchanges in doing:
        if not is_round(web, exchanges):
            return False
        behind = exchanged(behind, exchanges)
    return all_at_home(behind)


def turned_about(doing):
    """Tell the doing whose rounds are these, the last one first."""
    # The rounds are copied, too: those that are told are the asker's own.
    return [list(exchanges) for exchanges in doing[::-1]]


def far_from_home(web, things):
    """Tell for each place how far its thing is from home, None where it never comes there."""
    check_things(web, things)
    return [how_far(web, place, home) for place, home in enumerate(things)]


def check_things(web, things):
    """Refuse what are no things of the web."""
    many, _ = web
    check_homes(many, things)


def check_homes(many, things):
    """Refuse what are no things of so many places."""
    if not are_things(many, things):
        raise NoThings(f"these are not {many} things, each place the home of one")


def are_things(many, things):
    """Tell whether these are homes for so many places, each place the home of one."""
    # The length goes first, as the places of a very great web can't be listed.
    return len(things) == many and all_at_home(sorted(things))


def all_at_home(things):
    """Tell whether each thing stands at home."""
    return things == list(range(len(things)))


def check_doing(web, doing):
    """Refuse a doing with what is no round of the web."""
    for exchanges in doing:
        if not is_round(web, exchanges):
            raise NoRound("a round is a sorted list of pairs of the web, with no place twice")


def is_round(web, exchanges):
    """Tell whether this is a sorted list of pairs of the web in which no place stands twice."""
    _, pairs = web
    known = set(pairs)
    strangers = [pair for pair in exchanges if pair not in known]
    places = [place for pair in exchanges for place in pair]
    return not strangers and len(set(places)) == len(places) and exchanges == sorted(exchanges)


def exchanged(things, exchanges):
    """Tell the things, as a new list, behind these exchanges, which are known to be a round."""
    behind = list(things)
    for one, other in exchanges:
        behind[one], behind[other] = behind[other], behind[one]
    return behind
