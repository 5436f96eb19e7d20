"""Webs: places, numbered from 0, and the pairs of them that are neighbours."""

from ledhome.errors import NoPlace, NoWeb

MOST_SIDES = 5


def web_of(many, pairs):
    """Tell the web of so many places and these pairs, in any order and either way about."""
    if many < 1:
        raise NoWeb(f"a web has one place at least, not {many}")
    for one, other in pairs:
        check_pair(many, one, other)
    return many, sorted({(min(one, other), max(one, other)) for one, other in pairs})


def check_pair(many, one, other):
    """Refuse what can't be neighbours on a web of so many places."""
    if not is_place(many, one) or not is_place(many, other):
        raise NoWeb(f"{one} and {other} are not both places of {many}")
    if one == other:
        raise NoWeb(f"the place {one} is no neighbour of itself")


def is_place(many, place):
    """Tell whether this is one of so many places."""
    return 0 <= place < many


def line_web(many):
    """Tell the line of so many places."""
    return web_of(many, [(place, place + 1) for place in range(many - 1)])


def ring_web(many):
    """Tell the ring of so many places."""
    _, pairs = line_web(many)
    # One place or two have no further pair that could close the ring.
    if many > 2:
        pairs.append((0, many - 1))
    return web_of(many, pairs)


def grid_web(rows, columns):
    """Tell the grid of so many rows and columns."""
    check_sizes(rows, columns)
    many = rows * columns
    across = [(place, place + 1) for place in range(many) if (place + 1) % columns != 0]
    down = [(place, place + columns) for place in range(many - columns)]
    return web_of(many, across + down)


def check_sizes(rows, columns):
    """Refuse what are no numbers of rows and columns of a grid."""
    # Two numbers below 0 have a product above it, so each is looked at by itself.
    if rows < 1 or columns < 1:
        raise NoWeb(f"a grid has a row and a column at least, not {rows} and {columns}")


def tree_web(parents):
    """Tell the tree in which place 1 and each one behind it has the parent that is listed."""
    for place, parent in enumerate(parents, start=1):
        if not is_place(place, parent):
            raise NoWeb(f"the parent {parent} of the place {place} is no lesser place")
    return web_of(len(parents) + 1, list(enumerate(parents, start=1)))


def cube_web(sides):
    """Tell the cube of so many sides."""
    if sides < 0 or sides > MOST_SIDES:
        raise NoWeb(f"a cube has 0 to {MOST_SIDES} sides, not {sides}")
    many = 1 << sides
    return web_of(many, [(place, place ^ (1 << side)) for place in range(many) for side in range(sides)])


def neighbours(web, place):
    """Tell the neighbours of a place, rising."""
    check_place(web, place)
    return neighbour_lists(web).get(place, [])


def hang_together(web, place):
    """Tell the places to which one comes from this one by neighbours, itself among them, rising."""
    check_place(web, place)
    return sorted(steps_from(web, place))


def how_far(web, one, other):
    """Tell the fewest steps from the one place to the other, or None where there is no way."""
    check_place(web, one)
    check_place(web, other)
    return steps_from(web, one).get(other)


def check_place(web, place):
    """Refuse what is no place of the web."""
    many, _ = web
    if not is_place(many, place):
        raise NoPlace(f"{place} is none of the {many} places")


def neighbour_lists(web):
    """Tell, by place, the rising list of its neighbours; a place without any is left out."""
    _, pairs = web
    beside = {}
    for one, other in pairs:
        # As the pairs are sorted, all lesser neighbours of a place come ahead of the greater ones.
        beside.setdefault(one, []).append(other)
        beside.setdefault(other, []).append(one)
    return beside


def steps_from(web, place):
    """Tell, by place, the fewest steps from this one to each that hangs together with it."""
    beside = neighbour_lists(web)
    steps = {}
    edge = [place]
    far = 0
    while edge:
        for reached in edge:
            steps[reached] = far
        far += 1
        edge = sorted({there for here in edge for there in beside.get(here, []) if there not in steps})
    return steps
