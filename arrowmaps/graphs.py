"""Graphs of a few places, and the maps of one into another that keep arrows.

A graph is told as how many places it has and a flat list, two numbers for each
arrow: from where, then to where.
"""

NOT_A_GRAPH = -22
NOT_A_MAP = -13
NO_SUCH_MAP = -33
MOST_PLACES = 5


def is_graph(places, arrows):
    # Ahead of all else: the number of places may be too great to reckon with.
    if places < 1 or places > MOST_PLACES or len(arrows) % 2 != 0:
        return False
    last_rank = -1
    for i in range(0, len(arrows), 2):
        if arrows[i] >= places or arrows[i + 1] >= places:
            return False
        # One number for each arrow, in the order of arrows; an equal one is the same arrow again.
        rank = arrows[i] * places + arrows[i + 1]
        if rank <= last_rank:
            return False
        last_rank = rank
    return True


def arrow_table(arrows):
    table = {}
    for i in range(0, len(arrows), 2):
        table[(arrows[i], arrows[i + 1])] = True
    return table


def all_in_table(arrows, table):
    for i in range(0, len(arrows), 2):
        if (arrows[i], arrows[i + 1]) not in table:
            return False
    return True


def what_becomes(arrows, given):
    """What the arrows become by what each place gets."""
    # A list may be too short to be a map, and its arrows are still asked for: a place that it doesn't tell gets 0.
    return [given[place] if place < len(given) else 0 for place in arrows]


def keeps_arrows(given, arrows, table):
    return all_in_table(what_becomes(arrows, given), table)


def gives_places(given, n, m):
    """Whether that list gives each of n places one of m."""
    return len(given) == n and max(given) < m


def maps_into(given, n, m, first, second):
    """Whether that list, of any length and with any numbers, is a map of the first graph into the second."""
    return gives_places(given, n, m) and keeps_arrows(given, first, arrow_table(second))


def gives_none_twice(given):
    return len(set(given)) == len(given)


def gives_each(given, m):
    return all([place in given for place in range(m)])


def hits_each_arrow(given, first, second):
    return all_in_table(second, arrow_table(what_becomes(first, given)))


def only_renames(given, m, first, second):
    """Whether the graphs are the same but for names by that map."""
    return gives_none_twice(given) and gives_each(given, m) and hits_each_arrow(given, first, second)


def lists_in_order(n, m):
    """All lists of n places out of m."""
    # Each list is followed by its own longer ones, the lesser first, so the order holds at every length.
    found = [[]]
    for length in range(n):
        longer = []
        for begun in found:
            for place in range(m):
                longer.append(begun + [place])
        found = longer
    return found


def maps_in_order(n, m, first, second):
    table = arrow_table(second)
    return [given for given in lists_in_order(n, m) if keeps_arrows(given, first, table)]


def count(n, m, first, second):
    """How many maps of the first graph into the second there are."""
    if not is_graph(n, first) or not is_graph(m, second):
        return [NOT_A_GRAPH]
    return [len(maps_in_order(n, m, first, second))]


def nth(n, m, k, first, second):
    """How many places the first graph has, then the map before which there are k."""
    if not is_graph(n, first) or not is_graph(m, second):
        return [NOT_A_GRAPH]
    maps = maps_in_order(n, m, first, second)
    if k >= len(maps):
        return [NO_SUCH_MAP]
    return [n] + maps[k]


def is_map(n, m, first, second, mapping):
    """Whether that list is a map, gives no number twice, gives each place, hits each arrow: each as 1 or 0."""
    if not is_graph(n, first) or not is_graph(m, second):
        return [NOT_A_GRAPH]
    return [
        int(maps_into(mapping, n, m, first, second)),
        int(gives_none_twice(mapping)),
        int(gives_each(mapping, m)),
        int(hits_each_arrow(mapping, first, second)),
    ]


def kinds(n, m, first, second):
    """How many maps; how many of them give no place twice, give each place, give each and hit each arrow."""
    if not is_graph(n, first) or not is_graph(m, second):
        return [NOT_A_GRAPH]
    maps = maps_in_order(n, m, first, second)
    giving_each = [given for given in maps if gives_each(given, m)]
    return [
        len(maps),
        len([given for given in maps if gives_none_twice(given)]),
        len(giving_each),
        len([given for given in giving_each if hits_each_arrow(given, first, second)]),
    ]


def same(n, m, first, second):
    """How many places the graphs have, then the first map by which they are the same but for names."""
    if not is_graph(n, first) or not is_graph(m, second):
        return [NOT_A_GRAPH]
    for given in maps_in_order(n, m, first, second):
        if only_renames(given, m, first, second):
            return [n] + given
    return [NO_SUCH_MAP]


def after(n, m, o, first, second, third, behind, mapping):
    """How many places the first graph has, then what each gets by mapping, and that by behind."""
    if not is_graph(n, first) or not is_graph(m, second) or not is_graph(o, third):
        return [NOT_A_GRAPH]
    if not maps_into(mapping, n, m, first, second) or not maps_into(behind, m, o, second, third):
        return [NOT_A_MAP]
    return [n] + [behind[place] for place in mapping]
