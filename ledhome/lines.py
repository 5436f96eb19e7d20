"""Things on a line, led home by turns of looks at every other pair of neighbours."""

from ledhome.rounds import all_at_home, check_homes, exchanged


def line_first(things):
    """Tell the looks that lead home, the pairs (0, 1), (2, 3), .. first."""
    check_line(things)
    return looks_home(things, 0)


def line_home(things):
    """Tell the shorter one of the doings that begin with (0, 1), (2, 3), .. and (1, 2), (3, 4), .."""
    check_line(things)
    # Of two that are as long min tells the one that is listed first.
    return min([looks_home(things, 0), looks_home(things, 1)], key=len)


def check_line(things):
    """Refuse what are no things of the line of as many places."""
    # There is no line of no places: what is empty is one thing short of the least line.
    check_homes(max(len(things), 1), things)


def looks_home(things, start):
    """Tell the looks up to the last one that exchanges, the first one at the pairs from this place on."""
    doing = []
    behind = things
    # Things that are not at home have neighbours in wrong order, so at least each other look
    # exchanges, and the one that leads all home is the last that does.
    while not all_at_home(behind):
        exchanges = wrong_pairs(behind, start)
        doing.append(exchanges)
        behind = exchanged(behind, exchanges)
        start = 1 - start
    return doing


def wrong_pairs(things, start):
    """Tell every other pair of neighbours from this place on whose first thing has the greater home."""
    pairs = [(place, place + 1) for place in range(start, len(things) - 1, 2)]
    return [(one, other) for one, other in pairs if things[one] > things[other]]
