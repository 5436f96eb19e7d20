"""Things on a cube, led home within pairs of places, within both halves at once, within pairs again."""

from ledhome.errors import NoThings, NoWeb
from ledhome.lines import wrong_pairs
from ledhome.rounds import check_homes, check_things, exchanged
from ledhome.webs import MOST_SIDES, cube_web


def halves_of(things):
    """Tell a mark 0 or 1 for the thing on each place, unlike on each pair of places and for each pair of homes."""
    check_cube(things)
    if len(things) == 1:
        raise NoWeb("the cube of no side has no halves")
    stands = {home: place for place, home in enumerate(things)}
    marks = {}
    for start in range(len(things)):
        place = start
        # The thing whose home makes a pair with that of a thing marked 1 is the next one to be marked 0.
        # The way on ends where it began, so no thing is come to that is marked 1 already.
        while place not in marks:
            marks[place] = 0
            marks[place ^ 1] = 1
            place = stands[things[place ^ 1] ^ 1]
    return [marks[place] for place in range(len(things))]


def check_cube(things):
    """Refuse what are no things of any cube."""
    check_homes(len(things), things)
    if len(things) not in [1 << sides for sides in range(MOST_SIDES + 1)]:
        raise NoThings(f"no cube has {len(things)} places")


def cube_home(sides, things):
    """Tell a doing of twice the sides less one rounds that leads things home on the cube."""
    check_things(cube_web(sides), things)
    return home_by_halves(sides, things)


def home_by_halves(sides, things):
    """Tell the rounds that lead things home on the cube, both known to be right."""
    if sides == 0:
        return []
    if sides == 1:
        return [wrong_pairs(things, 0)]
    # Looked at as homes, the marks are wrong where the thing that is marked 1 stands ahead.
    first = wrong_pairs(halves_of(things), 0)
    behind = exchanged(things, first)
    middle = in_both_halves(sides - 1, behind)
    for exchanges in middle:
        behind = exchanged(behind, exchanges)
    return [first] + middle + [wrong_pairs(behind, 0)]


def in_both_halves(sides, things):
    """Tell the rounds that lead, in the half of even and that of odd places, each thing to its pair of homes."""
    even = home_by_halves(sides, [home // 2 for home in things[::2]])
    odd = home_by_halves(sides, [home // 2 for home in things[1::2]])
    return [sorted(of_half(one, 0) + of_half(other, 1)) for one, other in zip(even, odd)]


def of_half(exchanges, mark):
    """Tell the exchanges on a half as those on the whole cube."""
    return [(2 * one + mark, 2 * other + mark) for one, other in exchanges]
