"""What several tests need: graphs, wrong graphs, and a plain second way to find what is answered."""

import itertools

GREATEST = 4294967295

# One place, with an arrow to itself; one place without.
LOOP = (1, [0, 0])
DOT = (1, [])
# Arrows both ways between two places.
PAIR = (2, [0, 1, 1, 0])

# Each is (places, arrows) and isn't a graph.
WRONG_GRAPHS = [
    # no place, six places, very many
    (0, []),
    (0, [0, 0]),
    (6, []),
    (6, [0, 1]),
    (6, [5, 5]),
    (GREATEST, []),
    (GREATEST, [0, 1]),
    # an odd number of numbers
    (1, [0]),
    (2, [0, 1, 1]),
    (5, [0, 1, 1, 2, 2]),
    # an arrow from, or to, a place that isn't there
    (1, [1, 0]),
    (1, [0, 1]),
    (3, [0, 1, 3, 0]),
    (3, [0, 3, 1, 0]),
    (3, [0, 1, 2, 3]),
    (5, [0, 5]),
    (5, [5, 0]),
    (5, [0, GREATEST]),
    (5, [GREATEST, 0]),
    # the same arrow twice
    (1, [0, 0, 0, 0]),
    (3, [0, 1, 0, 1]),
    (3, [0, 1, 1, 2, 1, 2]),
    (3, [0, 1, 1, 2, 0, 1]),
    # not rising by the first number
    (3, [1, 0, 0, 1]),
    (3, [1, 1, 0, 2]),
    (3, [0, 1, 2, 0, 1, 2]),
    # not rising by the second number
    (3, [0, 2, 0, 1]),
    (3, [1, 0, 2, 2, 2, 1]),
    # the longest list: more arrows than any graph has
    (5, [0, 0] * 30),
    (5, [number for place in range(30) for number in (place // 5, place % 5)]),
    (GREATEST, [number for place in range(30) for number in (place // 6, place % 6)]),
]

# Lists to go with wrong graphs: none, maps elsewhere, too short, too long, numbers that are no place.
ANY_LISTS = [
    [],
    [0],
    [0, 0],
    [0, 1],
    [0, 1, 2, 3, 4],
    [0, 1, 2, 3, 4, 5, 6, 7],
    [GREATEST],
    [GREATEST] * 8,
]


class Untouched(list):
    """A list that fails the test as soon as anything changes it."""

    def refuse(self, *args, **kwargs):
        raise AssertionError("a list that was handed in is changed")

    __setitem__ = __delitem__ = __iadd__ = __imul__ = refuse
    append = extend = insert = pop = remove = clear = sort = reverse = refuse


class RefusesWrongGraphs:
    """The tests of -22 for a call of two graphs; answers tells what it gives back, with each k or list beside them."""

    def answers(self, first_graph, second_graph):
        raise NotImplementedError

    def check_refused(self, first_graph, second_graph, refused=True):
        answers = self.answers(first_graph, second_graph)
        self.assertGreater(len(answers), 0)
        for answer in answers:
            self.assertEqual(answer == [-22], refused, (first_graph, second_graph, answers))

    def test_wrong_graphs(self):
        for wrong in WRONG_GRAPHS:
            for right in (DOT, LOOP, full(5)):
                self.check_refused(wrong, right)
                self.check_refused(right, wrong)

    def test_both_are_wrong(self):
        for first_graph, second_graph in itertools.product(WRONG_GRAPHS, repeat=2):
            self.check_refused(first_graph, second_graph)

    def test_short_lists_are_refused_just_where_they_are_no_graph(self):
        for places, length in itertools.product((0, 1, 2, 3), range(7)):
            for numbers in itertools.product(range(3), repeat=length):
                graph = (places, list(numbers))
                refused = not plain_is_graph(places, list(numbers))
                self.check_refused(graph, LOOP, refused)
                self.check_refused(DOT, graph, refused)


def graph_of(places, bits):
    """The graph with an arrow for each bit that is set, told rising."""
    arrows = []
    for rank in range(places * places):
        if bits >> rank & 1:
            arrows.extend([rank // places, rank % places])
    return places, arrows


def all_graphs(places):
    return [graph_of(places, bits) for bits in range(1 << places * places)]


def full(places):
    """Every arrow there can be, those to the place itself too."""
    return graph_of(places, (1 << places * places) - 1)


def from_pairs(places, pairs):
    return places, [number for pair in sorted(pairs) for number in pair]


def complete(places):
    """Arrows both ways between any two places, none to the place itself."""
    return from_pairs(places, itertools.permutations(range(places), 2))


def ring(places):
    """Arrows round in one way."""
    return from_pairs(places, [(place, (place + 1) % places) for place in range(places)])


def both_ways(graph):
    places, arrows = graph
    pairs = set(pairs_of(arrows))
    return from_pairs(places, pairs | {(v, u) for u, v in pairs})


def path(places):
    return from_pairs(places, [(place, place + 1) for place in range(places - 1)])


def rising(places):
    """An arrow from each place to each greater one."""
    return from_pairs(places, itertools.combinations(range(places), 2))


def pairs_of(arrows):
    return list(zip(arrows[::2], arrows[1::2]))


def plain_is_graph(places, arrows):
    pairs = pairs_of(arrows)
    return (
        places in (1, 2, 3, 4, 5)
        and len(arrows) == 2 * len(pairs)
        and all(number in range(places) for number in arrows)
        and pairs == sorted(set(pairs))
    )


def plain_maps(first_graph, second_graph):
    """The maps by the document's words, sorted as lists are."""
    n, first = first_graph
    m, second = second_graph
    there = set(pairs_of(second))
    return sorted(
        list(given)
        for given in itertools.product(reversed(range(m)), repeat=n)
        if {(given[u], given[v]) for u, v in pairs_of(first)} <= there
    )


def plain_is(first_graph, second_graph, given, maps):
    """The four numbers of is_map by the document's words; maps: all those of the first graph into the second."""
    m, second = second_graph
    gets = dict(enumerate(given))
    became = {(gets.get(u, 0), gets.get(v, 0)) for u, v in pairs_of(first_graph[1])}
    return [
        1 if list(given) in maps else 0,
        1 if not any(given.count(number) > 1 for number in given) else 0,
        1 if set(range(m)) - set(given) == set() else 0,
        1 if set(pairs_of(second)) - became == set() else 0,
    ]


def plain_kinds(first_graph, second_graph):
    maps = plain_maps(first_graph, second_graph)
    of_each = [plain_is(first_graph, second_graph, given, maps) for given in maps]
    return [
        len(maps),
        sum(none_twice for fits, none_twice, each, hit in of_each),
        sum(each for fits, none_twice, each, hit in of_each),
        sum(each * hit for fits, none_twice, each, hit in of_each),
    ]


def renamed(graph, names):
    """The same graph, in which each place is called by what stands for it in names."""
    places, arrows = graph
    return from_pairs(places, [(names[u], names[v]) for u, v in pairs_of(arrows)])


def plain_same(first_graph, second_graph):
    """What same answers: the first of all ways to rename the first graph that make it the second."""
    for names in itertools.permutations(range(first_graph[0])):
        if renamed(first_graph, names) == second_graph:
            return [len(names)] + list(names)
    return [-33]


def plain_after(graphs, behind, mapping):
    """What after answers of three graphs, by what is told of each place."""
    first_graph, second_graph, third_graph = graphs
    if mapping not in plain_maps(first_graph, second_graph) or behind not in plain_maps(second_graph, third_graph):
        return [-13]
    by_behind = dict(enumerate(behind))
    return [first_graph[0]] + [by_behind[place] for place in mapping]


def some_pairs():
    """Pairs of graphs of 3 to 5 places, thin ones into thick ones so that some have maps; always the same."""
    state = 1
    pairs = []
    for n in (3, 4, 5):
        for m in (3, 4, 5):
            for turn in range(4):
                draws = []
                for draw in range(6):
                    state = (state * 1103515245 + 12345) % (1 << 31)
                    draws.append(state >> 5)
                thin = draws[0] & draws[1] & draws[2] & ((1 << n * n) - 1)
                thick = (draws[3] | draws[4]) & ((1 << m * m) - 1)
                pairs.append((graph_of(n, thin), graph_of(m, thick)))
    return pairs
