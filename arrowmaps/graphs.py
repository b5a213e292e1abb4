"""Graphs of a few places, and the maps of one into another that keep arrows.

A graph is told as how many places it has and a flat list, two numbers for each
arrow: from where, then to where.
"""

NOT_A_GRAPH = -22
NO_SUCH_MAP = -33
MOST_PLACES = 5


def is_graph(places, arrows):
    # Ahead of all else: the number of places may be too great to reckon with.
    if places < 1 or places > MOST_PLACES or len(arrows) % 2 != 0:
        return False
    last_rank = -1
    for i in range(0, len(arrows), 2):
        if arrows[i] >= places or arrows[i + 1] >= places:
            return False
        # One number for each arrow, in the order of arrows; an equal one is the same arrow again.
        rank = arrows[i] * places + arrows[i + 1]
        if rank <= last_rank:
            return False
        last_rank = rank
    return True


def arrow_table(arrows):
    table = {}
    for i in range(0, len(arrows), 2):
        table[(arrows[i], arrows[i + 1])] = True
    return table


def keeps_arrows(given, arrows, table):
    for i in range(0, len(arrows), 2):
        if (given[arrows[i]], given[arrows[i + 1]]) not in table:
            return False
    return True


def lists_in_order(n, m):
    """All lists of n places out of m."""
    # Each list is followed by its own longer ones, the lesser first, so the order holds at every length.
    found = [[]]
    for length in range(n):
        longer = []
        for begun in found:
            for place in range(m):
                longer.append(begun + [place])
        found = longer
    return found


def maps_in_order(n, m, first, second):
    table = arrow_table(second)
    return [given for given in lists_in_order(n, m) if keeps_arrows(given, first, table)]


def count(n, m, first, second):
    """How many maps of the first graph into the second there are."""
    if not is_graph(n, first) or not is_graph(m, second):
        return [NOT_A_GRAPH]
    return [len(maps_in_order(n, m, first, second))]


def nth(n, m, k, first, second):
    """How many places the first graph has, then the map before which there are k."""
    if not is_graph(n, first) or not is_graph(m, second):
        return [NOT_A_GRAPH]
    maps = maps_in_order(n, m, first, second)
    if k >= len(maps):
        return [NO_SUCH_MAP]
    return [n] + maps[k]
