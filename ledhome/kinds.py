"""Alike things: homes that suit them, the fewest rounds to what is wished, and how many arrangements there are."""

from itertools import permutations

from ledhome.errors import NeverHome, NoThings
from ledhome.least import check_few_places, first_least
from ledhome.webs import hang_together, steps_from


def homes_for(web, kinds, wishes):
    """Tell the first of the lists of homes that wish each thing's kind and whose greatest way is least."""
    check_wishes(web, kinds, wishes)
    steps = [steps_from(web, place) for place in range(len(kinds))]
    every = [list(homes) for homes in permutations(range(len(kinds)))]
    fitting = [homes for homes in every if are_wished(kinds, wishes, homes) and are_come_to(steps, homes)]
    # Of several min tells the one that is listed first, and they are listed sorted.
    return min(fitting, key=lambda homes: greatest_way(steps, homes))


def are_wished(kinds, wishes, homes):
    """Tell whether each thing's home wishes its kind."""
    return kinds == [wishes[home] for home in homes]


def are_come_to(steps, homes):
    """Tell whether each thing comes to its home."""
    return all(home in steps[place] for place, home in enumerate(homes))


def greatest_way(steps, homes):
    """Tell how far from its home the thing is that is the farthest."""
    return max([steps[place][home] for place, home in enumerate(homes)])


def least_for(web, kinds, wishes):
    """Tell the fewest rounds behind which each place has what it wishes, and the first such doing."""
    check_wishes(web, kinds, wishes)
    doing = first_least(web, kinds, wishes)
    return len(doing), doing


def how_many_come(web, kinds):
    """Tell how many arrangements of the kinds can be come to, this one among them."""
    check_kinds(web, kinds)
    check_few_places(web)
    many = 1
    for part in parts_of(web):
        # By exchanges of neighbours each order of what stands on a part is come to.
        standing = on_places(kinds, part)
        many *= len({order for order in permutations(standing)})
    return many


def check_wishes(web, kinds, wishes):
    """Refuse what are no kinds and wishes for them, then webs too great, then wishes that never come about."""
    check_kinds(web, kinds)
    if sorted(kinds) != sorted(wishes):
        raise NoThings("the wishes have not the same kinds, each as often")
    check_few_places(web)
    for part in parts_of(web):
        if sorted(on_places(kinds, part)) != sorted(on_places(wishes, part)):
            raise NeverHome(f"what the places {part} wish never comes to them")


def check_kinds(web, kinds):
    """Refuse kinds that are not one for each place."""
    many, _ = web
    if len(kinds) != many:
        raise NoThings(f"these are not {many} kinds, one for each place")


def on_places(kinds, places):
    """Tell the kinds on these places alone."""
    return [kinds[place] for place in places]


def parts_of(web):
    """Tell the parts of the web, each a rising list of places that hang together."""
    many, _ = web
    parts = [hang_together(web, place) for place in range(many)]
    # All places of a part tell the same: it is taken once, from the least of them.
    return [part for place, part in enumerate(parts) if part[0] == place]
