"""Things on a ring, led home on it as on the line that it is where it is cut open."""

from ledhome.errors import NoThings
from ledhome.lines import line_home
from ledhome.rounds import check_homes

LEAST_RING = 3


def ring_home(things):
    """Tell the shortest of the doings that lead things home on the ring, cut open ahead of each place."""
    check_ring(things)
    # Of several that are as long min tells the one that is listed first: that of the least place.
    return min([cut_home(things, first) for first in range(len(things))], key=len)


def check_ring(things):
    """Refuse what are no things of the ring of as many places."""
    check_homes(len(things), things)
    if len(things) < LEAST_RING:
        raise NoThings(f"a ring has {LEAST_RING} places at least, not {len(things)}")


def cut_home(things, first):
    """Tell the doing that leads things home on the ring as on the line that begins at this place."""
    many = len(things)
    line = [(home - first) % many for home in things[first:] + things[:first]]
    return [sorted([ring_pair(many, first + spot) for spot, _ in exchanges]) for exchanges in line_home(line)]


def ring_pair(many, steps):
    """Tell the pair of the place that is so many steps behind place 0, round about, and the next one."""
    one, other = steps % many, (steps + 1) % many
    return min(one, other), max(one, other)


def shorter_ways(things):
    """Tell for each place how many steps its thing has to go home, less than 0 where falling is shorter."""
    check_ring(things)
    many = len(things)
    return [shorter_way(many, (home - place) % many) for place, home in enumerate(things)]


def shorter_way(many, rising):
    """Tell the steps of the shorter way on a ring of so many places, where the rising way has so many steps."""
    falling = many - rising
    if falling < rising:
        return -falling
    return rising
