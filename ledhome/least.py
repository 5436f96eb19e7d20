"""The fewest rounds that lead home on small webs, and papers that fewer don't do."""

from ledhome.along import never_home
from ledhome.errors import NeverHome, TooMany
from ledhome.rounds import all_at_home, are_things, check_things, exchanged

MOST_PLACES = 6
MOST_PAIRS = 15


def least_home(web, things):
    """Tell ("doing", the first doing of the fewest rounds that lead home) or ("never", the place of never_home)."""
    check_small(web, things)
    place = never_home(web, things)
    if place is not None:
        return "never", place
    return "doing", first_least(web, things, list(range(len(things))))


def how_many_least(web, things):
    """Tell how many doings of the fewest rounds lead home."""
    check_small(web, things)
    if never_home(web, things) is not None:
        return 0
    return ways_between(web, things, list(range(len(things))))[-1][tuple(things)]


def check_small(web, things):
    """Refuse what are no things of the web, then webs of more places than are gone through."""
    check_things(web, things)
    check_few_places(web)


def check_few_places(web):
    """Refuse webs of more places than are gone through."""
    many, _ = web
    if many > MOST_PLACES:
        raise TooMany(f"the web has {many} places, not at most {MOST_PLACES}")


def first_least(web, things, wishes):
    """Tell the first doing of the fewest rounds behind which the things stand as wished, as they may come to."""
    rounds = all_rounds(web)
    doing = []
    behind = things
    for ways in reversed(ways_between(web, things, wishes)[:-1]):
        leading = [exchanges for exchanges in rounds if tuple(exchanged(behind, exchanges)) in ways]
        # The round is copied, as it may stand in the doing more than once.
        doing.append(list(leading[0]))
        behind = exchanged(behind, leading[0])
    return doing


def ways_between(web, things, wishes):
    """Tell for 0 rounds, 1 round and on, up to the fewest for these things, from where so many lead to the wishes.

    Each is a dict: by how things stand, as a tuple, how many doings of so many rounds there are.
    """
    rounds = all_rounds(web)
    ways = [{tuple(wishes): 1}]
    while tuple(things) not in ways[-1]:
        ways.append(ways_with_one_more(rounds, ways[-1]))
    return ways


def ways_with_one_more(rounds, ways):
    """Tell the dict for one round more, which goes ahead of the others."""
    more = {}
    for there, many in ways.items():
        for exchanges in rounds:
            # A round undoes itself, so the one that leads from there to here leads back, too.
            here = tuple(exchanged(there, exchanges))
            more[here] = more.get(here, 0) + many
    return more


def all_rounds(web):
    """Tell all rounds of the web, the empty one, too, sorted as lists."""
    _, pairs = web
    if len(pairs) > MOST_PAIRS:
        raise TooMany(f"the web has {len(pairs)} pairs, not at most {MOST_PAIRS}")
    rounds = [[]]
    for pair in pairs:
        rounds = rounds + [exchanges + [pair] for exchanges in rounds if is_free(exchanges, pair)]
    return sorted(rounds)


def is_free(exchanges, pair):
    """Tell whether neither place of the pair takes part in these exchanges."""
    return not any(place in exchange for exchange in exchanges for place in pair)


def levels_show(web, things, levels):
    """Tell whether the paper of levels is let by, so that no fewer rounds than levels lead home."""
    check_things(web, things)
    rounds = all_rounds(web)
    if not levels:
        return True
    if things not in levels[0] or not all_away(web, levels):
        return False
    for level, further in zip(levels, levels[1:]):
        if not leads_on(rounds, level, further):
            return False
    return True


def all_away(web, levels):
    """Tell whether only things of the web stand in the levels, and nowhere all at home."""
    many, _ = web
    every = [there for level in levels for there in level]
    return all(are_things(many, there) and not all_at_home(there) for there in every)


def leads_on(rounds, level, further):
    """Tell whether whatever stands in the level is, behind each round, in the one further on."""
    known = {tuple(there) for there in further}
    for there in level:
        for exchanges in rounds:
            if tuple(exchanged(there, exchanges)) not in known:
                return False
    return True


def levels_of(web, things):
    """Tell a paper of as many levels as the fewest rounds that lead home: all that is come to by then."""
    check_small(web, things)
    place = never_home(web, things)
    if place is not None:
        raise NeverHome(f"the thing on the place {place} never comes home")
    rounds = all_rounds(web)
    levels = []
    level = [list(things)]
    while not any(all_at_home(there) for there in level):
        levels.append(level)
        level = behind_any(rounds, level)
    return levels


def behind_any(rounds, level):
    """Tell all things that stand behind some round, the empty one, too, where they stand in the level."""
    return [list(there) for there in sorted({tuple(exchanged(one, by)) for one in level for by in rounds})]
