"""Things on a grid, led home in three walks: within columns, within rows, within columns."""

from ledhome.errors import NoThings
from ledhome.lines import line_home
from ledhome.rounds import behind_doing, check_homes
from ledhome.webs import check_sizes, grid_web


def grid_home(rows, columns, things):
    """Tell a doing that leads things home on the grid of so many rows and columns."""
    check_sizes(rows, columns)
    # Things are looked at ahead of the web, as the pairs of a very great grid can't be listed.
    check_homes(rows * columns, things)
    web = grid_web(rows, columns)
    across = [[row * columns + column for column in range(columns)] for row in range(rows)]
    down = [[row * columns + column for row in range(rows)] for column in range(columns)]
    first = walk(down, spread_columns([[things[place] % columns for place in row] for row in across]))
    behind = behind_doing(web, things, first)
    second = walk(across, [[behind[place] % columns for place in row] for row in across])
    behind = behind_doing(web, behind, second)
    third = walk(down, [[behind[place] // columns for place in column] for column in down])
    return first + second + third


def walk(lines, ways):
    """Tell the rounds that lead, on all lines at once, each thing to the spot that the line's way lists."""
    doings = [line_home(way) for way in ways]
    # A doing of line_home has no empty round, so the longest one leaves none empty here.
    longest = max([len(doing) for doing in doings])
    rounds = [[] for _ in range(longest)]
    for line, doing in zip(lines, doings):
        for at, exchanges in enumerate(doing):
            rounds[at].extend([(line[one], line[other]) for one, other in exchanges])
    return [sorted(exchanges) for exchanges in rounds]


def spread_columns(table):
    """Tell, by column, the row to which each thing goes, so that in each row all home columns are unlike."""
    if not is_table(table):
        raise NoThings("each row of a table lists as many home columns, each of them as often as there are rows")
    rows, columns = len(table), len(table[0])
    left = [list(range(rows)) for _ in range(columns)]
    orders = [[0] * rows for _ in range(columns)]
    for row in range(rows):
        takers = one_of_each(table, left)
        for column, chosen in takers:
            orders[column][chosen] = row
            left[column].remove(chosen)
    return orders


def is_table(table):
    """Tell whether this is a table of home columns, each of them as often as there are rows."""
    if not table or not table[0]:
        return False
    columns = len(table[0])
    numbers = sorted([number for row in table for number in row])
    each = [column for column in range(columns) for _ in table]
    return numbers == each and all(len(row) == columns for row in table)


def one_of_each(table, left):
    """Tell for each column a row, one of those left there, so that all home columns are unlike.

    As many rows are left in each column as things of each home column are left in all, so any
    few columns hold things of at least as many home columns, and there is always such a choice.
    """
    takers = {}
    for column in range(len(left)):
        takes_one(table, left, column, takers, {})
    return list(takers.values())


def takes_one(table, left, column, takers, tried):
    """Let the column take a thing of a home column that is free or that its taker can leave for another one.

    A taker is listed by home column, as a pair: its column and the row of the thing it has taken.
    """
    for row in left[column]:
        home = table[row][column]
        if home in tried:
            continue
        tried[home] = True
        if home not in takers or takes_one(table, left, takers[home][0], takers, tried):
            takers[home] = (column, row)
            return True
    return False
