import itertools
import unittest

from arrowmaps.graphs import after, count, is_map, nth
from tests import helper

LARGE = helper.GREATEST

# Each has its own number of places, so that what is exchanged shows.
PATH_RING_SQUARE = (helper.path(2), helper.ring(3), (4, [0, 3, 1, 0, 3, 1]))

# Three graphs each, with maps of the first into the second and of the second into the third.
CHAINS = [
    PATH_RING_SQUARE,
    (helper.path(3), helper.rising(4), helper.rising(5)),
    (helper.path(4), helper.ring(4), helper.PAIR),
    (helper.both_ways(helper.path(3)), helper.PAIR, helper.complete(4)),
    ((2, [0, 0]), (3, [0, 1, 1, 1, 2, 2]), (3, [0, 0, 0, 2, 1, 1])),
    ((3, []), (2, []), (3, [])),
    ((1, []), (3, [1, 2]), (4, [0, 1, 2, 0, 3, 3])),
    (helper.complete(3), helper.complete(3), helper.complete(3)),
    (helper.path(5), helper.full(2), helper.LOOP),
    (helper.LOOP, helper.LOOP, (5, [0, 1, 2, 2, 4, 4])),
]


def after_of(graphs, behind, mapping):
    (n, first), (m, second), (o, third) = graphs
    return after(n, m, o, first, second, third, behind, mapping)


def maps_told(first_graph, second_graph):
    """All the maps, as nth tells them."""
    n, first = first_graph
    m, second = second_graph
    return [nth(n, m, k, first, second)[1:] for k in range(count(n, m, first, second)[0])]


def all_lists(length, places):
    return [list(given) for given in itertools.product(range(places), repeat=length)]


class AfterTest(unittest.TestCase):
    def check(self, graphs, behind, mapping, answer):
        self.assertEqual(after_of(graphs, behind, mapping), answer, (graphs, behind, mapping))

    def check_map(self, graphs, behind, mapping):
        """By a second way; what is told is a map of the first graph into the third."""
        (n, first), second_graph, (o, third) = graphs
        answer = helper.plain_after(graphs, behind, mapping)
        self.check(graphs, behind, mapping, answer)
        self.assertEqual(answer[0], n)
        self.assertEqual(is_map(n, o, first, third, answer[1:])[0], 1)


class Ordinary(AfterTest):
    def test_different_numbers_of_places(self):
        # Round 0, 3, 1: from 0 to 3, from 3 to 1, from 1 to 0.
        self.check(PATH_RING_SQUARE, [0, 3, 1], [0, 1], [2, 0, 3])
        self.check(PATH_RING_SQUARE, [0, 3, 1], [1, 2], [2, 3, 1])
        self.check(PATH_RING_SQUARE, [3, 1, 0], [2, 0], [2, 0, 3])
        self.check(PATH_RING_SQUARE, [1, 0, 3], [2, 0], [2, 3, 1])
        self.check(((2, []), (3, []), (4, [])), [3, 1, 0], [2, 0], [2, 0, 3])
        self.check(((5, []), (4, []), (3, [])), [2, 0, 1, 2], [3, 1, 1, 2, 0], [5, 2, 0, 0, 1, 2])
        self.check(((1, []), (5, []), (2, [])), [0, 0, 0, 1, 0], [3], [1, 1])

    def test_more_places_than_there_are_to_get(self):
        self.check((helper.path(4), helper.ring(4), helper.PAIR), [1, 0, 1, 0], [2, 3, 0, 1], [4, 1, 0, 1, 0])
        self.check((helper.path(5), helper.full(2), helper.LOOP), [0, 0], [0, 1, 1, 0, 1], [5, 0, 0, 0, 0, 0])

    def test_behind_is_behind(self):
        # Both may stand ahead of the other, and it's not alike.
        graphs = (helper.complete(3), helper.complete(3), helper.complete(3))
        self.check(graphs, [0, 2, 1], [1, 0, 2], [3, 2, 0, 1])
        self.check(graphs, [1, 0, 2], [0, 2, 1], [3, 1, 2, 0])
        self.check(((2, []), (2, []), (2, [])), [0, 0], [1, 1], [2, 0, 0])
        self.check(((2, []), (2, []), (2, [])), [1, 1], [0, 0], [2, 1, 1])

    def test_five_places(self):
        graphs = (helper.ring(5), helper.ring(5), helper.ring(5))
        self.check(graphs, [1, 2, 3, 4, 0], [3, 4, 0, 1, 2], [5, 4, 0, 1, 2, 3])
        graphs = (helper.full(5), helper.full(5), helper.full(5))
        self.check(graphs, [4, 2, 0, 1, 3], [1, 1, 3, 0, 4], [5, 2, 2, 1, 4, 3])

    def test_the_same_list_as_mapping_and_as_behind(self):
        given = [1, 2, 0]
        self.check((helper.ring(3), helper.ring(3), helper.ring(3)), given, given, [3, 2, 0, 1])
        given = [1, 1, 0]
        self.check(((3, []), (3, []), (3, [])), given, given, [3, 1, 1, 1])
        # One place too few in one of the graphs, each in its turn.
        given = [0, 1, 2]
        self.check(((3, []), (3, []), (3, [])), given, given, [3, 0, 1, 2])
        self.check(((3, []), (3, []), (2, [])), given, given, [-13])
        self.check(((3, []), (2, []), (3, [])), given, given, [-13])
        self.check(((2, []), (3, []), (3, [])), given, given, [-13])

    def test_no_change_behind_and_ahead_of_a_map(self):
        for first_graph, second_graph in itertools.pairwise(helper.all_graphs(2) + helper.all_graphs(3)[::17]):
            self.check_no_change(first_graph, second_graph)
        for first_graph, second_graph, third_graph in CHAINS:
            self.check_no_change(first_graph, second_graph)
            self.check_no_change(second_graph, third_graph)

    def check_no_change(self, first_graph, second_graph):
        n, m = first_graph[0], second_graph[0]
        for given in maps_told(first_graph, second_graph):
            self.check((first_graph, second_graph, second_graph), list(range(m)), given, [n] + given)
            self.check((first_graph, first_graph, second_graph), given, list(range(n)), [n] + given)

    def test_no_change_behind_no_change(self):
        for n, arrows in helper.all_graphs(3) + [helper.ring(5), helper.full(5), helper.LOOP, helper.PAIR]:
            graph = (n, arrows)
            self.check((graph, graph, graph), list(range(n)), list(range(n)), [n] + list(range(n)))

    def test_the_way_back_undoes(self):
        one = helper.path(4)
        other = helper.renamed(one, [2, 0, 3, 1])
        self.check((one, other, one), [1, 3, 0, 2], [2, 0, 3, 1], [4, 0, 1, 2, 3])

    def test_three_maps_behind_one_another(self):
        # Whichever two are put together first.
        graphs = [helper.path(3), helper.ring(4), helper.PAIR, helper.complete(3)]
        ahead = maps_told(graphs[0], graphs[1])
        between = maps_told(graphs[1], graphs[2])
        last = maps_told(graphs[2], graphs[3])
        self.assertGreater(min(len(ahead), len(between), len(last)), 1)
        for one, two, three in itertools.product(ahead, between, last):
            one_two = after_of(graphs[:3], two, one)[1:]
            two_three = after_of(graphs[1:], three, two)[1:]
            answer = after_of((graphs[0], graphs[2], graphs[3]), three, one_two)
            self.assertGreater(answer[0], 0)
            self.check((graphs[0], graphs[1], graphs[3]), two_three, one, answer)


class BySecondWay(AfterTest):
    def test_all_maps_of_chosen_graphs(self):
        for graphs in CHAINS:
            mappings = maps_told(graphs[0], graphs[1])
            behinds = maps_told(graphs[1], graphs[2])
            self.assertGreater(min(len(mappings), len(behinds)), 0, graphs)
            for behind, mapping in itertools.product(behinds, mappings):
                self.check_map(graphs, behind, mapping)

    def test_all_lists_of_chosen_graphs(self):
        # Maps or not, as long as they are to be.
        refused = 0
        for graphs in CHAINS[:7]:
            n, m, o = [places for places, arrows in graphs]
            for behind, mapping in itertools.product(all_lists(m, o)[::3], all_lists(n, m)[::3]):
                answer = helper.plain_after(graphs, behind, mapping)
                self.check(graphs, behind, mapping, answer)
                refused += answer == [-13]
        self.assertGreater(refused, 100)

    def test_all_graphs_of_one_and_two_places(self):
        graphs = helper.all_graphs(1) + helper.all_graphs(2)
        maps = {}
        for one, other in itertools.product(range(len(graphs)), repeat=2):
            maps[one, other] = helper.plain_maps(graphs[one], graphs[other])
        answered = 0
        for one, two, three in itertools.product(range(len(graphs)), repeat=3):
            n, m, o = [graphs[number][0] for number in (one, two, three)]
            for behind, mapping in itertools.product(all_lists(m, o), all_lists(n, m)):
                answer = [-13]
                if mapping in maps[one, two] and behind in maps[two, three]:
                    answer = [n] + [behind[place] for place in mapping]
                    self.assertIn(answer[1:], maps[one, three])
                    answered += 1
                self.check((graphs[one], graphs[two], graphs[three]), behind, mapping, answer)
        self.assertGreater(answered, 1000)

    def test_larger_graphs(self):
        tried = 0
        for first_graph, second_graph in helper.some_pairs():
            behind = list(reversed(range(second_graph[0])))
            graphs = (first_graph, second_graph, helper.renamed(second_graph, behind))
            mappings = helper.plain_maps(first_graph, second_graph)
            for mapping in mappings[:: 1 + len(mappings) // 5]:
                self.check_map(graphs, behind, mapping)
                tried += 1
        # Else these graphs would show little.
        self.assertGreater(tried, 100)


class NoMaps(AfterTest):
    def test_one_of_them_or_neither(self):
        graphs = PATH_RING_SQUARE
        self.check(graphs, [0, 3, 1], [0, 1], [2, 0, 3])
        # mapping loses the arrow; behind loses one; both do.
        self.check(graphs, [0, 3, 1], [1, 0], [-13])
        self.check(graphs, [0, 3, 2], [0, 1], [-13])
        self.check(graphs, [0, 3, 2], [1, 0], [-13])

    def test_each_arrow_counts(self):
        # Into the full graph but for one arrow, each in its turn.
        whole = helper.full(3)
        for lost in range(9):
            graph = helper.graph_of(3, (1 << 9) - 1 - (1 << lost))
            self.check((whole, graph, whole), [0, 1, 2], [0, 1, 2], [-13])
            self.check((whole, whole, graph), [0, 1, 2], [0, 1, 2], [-13])
            self.check((graph, graph, whole), [0, 1, 2], [0, 1, 2], [3, 0, 1, 2])
            self.check((graph, whole, whole), [0, 1, 2], [0, 1, 2], [3, 0, 1, 2])

    def test_the_whole_is_a_map_and_a_half_is_not(self):
        # mapping loses the arrow, and behind would bring it back.
        self.check((helper.path(2), (2, []), helper.LOOP), [0, 0], [0, 1], [-13])
        self.check((helper.path(2), (2, [1, 0]), helper.full(2)), [0, 1], [0, 1], [-13])
        # behind loses an arrow that mapping doesn't hit.
        self.check((helper.DOT, helper.path(2), (2, [])), [0, 1], [0], [-13])
        self.check((helper.path(2), helper.path(3), helper.path(2)), [0, 1, 1], [0, 1], [-13])
        # behind gives something that is no place to a place that mapping doesn't give.
        self.check((helper.DOT, (2, []), helper.DOT), [0, 0], [0], [1, 0])
        self.check((helper.DOT, (2, []), helper.DOT), [0, 1], [0], [-13])
        # behind doesn't tell a place that mapping doesn't give.
        self.check((helper.DOT, (2, []), helper.DOT), [0], [0], [-13])

    def test_exchanged(self):
        # As handed in they are none; the other way round both are maps.
        graphs = ((1, []), (2, []), (3, []))
        self.check(graphs, [2, 0], [1], [1, 0])
        self.check(graphs, [1], [2, 0], [-13])
        graphs = ((2, []), (2, []), (3, []))
        self.check(graphs, [2, 0], [1, 0], [2, 0, 2])
        self.check(graphs, [1, 0], [2, 0], [-13])

    def test_empty(self):
        for graphs in CHAINS:
            mapping = maps_told(graphs[0], graphs[1])[0]
            behind = maps_told(graphs[1], graphs[2])[0]
            self.check(graphs, [], mapping, [-13])
            self.check(graphs, behind, [], [-13])
            self.check(graphs, [], [], [-13])

    def test_too_short_and_too_long(self):
        for graphs in CHAINS:
            mapping = maps_told(graphs[0], graphs[1])[-1]
            behind = maps_told(graphs[1], graphs[2])[-1]
            for shorter in range(len(mapping)):
                self.check(graphs, behind, mapping[:shorter], [-13])
            for shorter in range(len(behind)):
                self.check(graphs, behind[:shorter], mapping, [-13])
            for number in (0, 1, 4, LARGE):
                for length in range(len(mapping) + 1, 9):
                    self.check(graphs, behind, (mapping + [number] * 8)[:length], [-13])
                for length in range(len(behind) + 1, 9):
                    self.check(graphs, (behind + [number] * 8)[:length], mapping, [-13])
            self.check(graphs, (behind + [0] * 8)[:8], (mapping + [0] * 8)[:8], [-13])

    def test_an_untold_place_does_not_get_0(self):
        # With 0 for it, each would be a map.
        self.check((helper.path(2), helper.LOOP, helper.LOOP), [0], [0, 0], [2, 0, 0])
        self.check((helper.path(2), helper.LOOP, helper.LOOP), [0], [0], [-13])
        self.check((helper.LOOP, (2, [0, 0]), helper.LOOP), [0], [0], [-13])

    def test_numbers_that_are_no_place(self):
        graphs = ((2, []), (3, []), (4, []))
        self.check(graphs, [3, 3, 3], [2, 2], [2, 3, 3])
        for wrong in (3, 4, 5, 7, 8, LARGE - 1, LARGE):
            self.check(graphs, [3, 3, 3], [2, wrong], [-13])
            self.check(graphs, [3, 3, 3], [wrong, 2], [-13])
            self.check(graphs, [3, 3, 3], [wrong, wrong], [-13])
        for wrong in (4, 5, 7, 8, LARGE - 1, LARGE):
            for place in range(3):
                behind = [3, 3, 3]
                behind[place] = wrong
                self.check(graphs, behind, [2, 2], [-13])
                self.check(graphs, behind, [wrong, 0], [-13])
        # A place of another of the graphs is none of this.
        self.check((helper.DOT, helper.DOT, (5, [])), [4], [0], [1, 4])
        self.check((helper.DOT, helper.DOT, (5, [])), [4], [4], [-13])
        self.check((helper.DOT, (5, []), helper.DOT), [0, 0, 0, 0, 1], [4], [-13])

    def test_very_large_numbers(self):
        for graphs in CHAINS:
            n, m, o = [places for places, arrows in graphs]
            self.check(graphs, [LARGE] * m, [LARGE] * n, [-13])
            self.check(graphs, [LARGE] * 8, [LARGE] * 8, [-13])
            self.check(graphs, [LARGE] * m, maps_told(graphs[0], graphs[1])[0], [-13])
            self.check(graphs, maps_told(graphs[1], graphs[2])[0], [LARGE] * n, [-13])


class Edges(AfterTest):
    def test_one_place_with_an_arrow_to_itself(self):
        loop, dot = helper.LOOP, helper.DOT
        self.check((loop, loop, loop), [0], [0], [1, 0])
        self.check((dot, dot, dot), [0], [0], [1, 0])
        self.check((dot, dot, loop), [0], [0], [1, 0])
        self.check((dot, loop, loop), [0], [0], [1, 0])
        self.check((loop, dot, loop), [0], [0], [-13])
        self.check((dot, loop, dot), [0], [0], [-13])
        self.check((loop, loop, dot), [0], [0], [-13])
        self.check((helper.full(5), loop, (3, [1, 1])), [1], [0, 0, 0, 0, 0], [5, 1, 1, 1, 1, 1])
        self.check((helper.full(5), loop, (3, [1, 1])), [2], [0, 0, 0, 0, 0], [-13])

    def test_no_arrows(self):
        for n, m, o in itertools.product(range(1, 6), repeat=3):
            mapping = [place % m for place in range(n)]
            behind = [(place + 1) % o for place in range(m)]
            answer = [n] + [(place % m + 1) % o for place in range(n)]
            self.check(((n, []), (m, []), (o, [])), behind, mapping, answer)
            self.check((helper.full(n), helper.full(m), helper.full(o)), behind, mapping, answer)

    def test_arrows_both_ways(self):
        pair = helper.PAIR
        self.check((pair, pair, pair), [1, 0], [1, 0], [2, 0, 1])
        self.check((pair, pair, pair), [1, 0], [0, 1], [2, 1, 0])
        self.check((pair, pair, helper.LOOP), [0, 0], [1, 0], [2, 0, 0])
        self.check((helper.path(2), pair, pair), [1, 0], [1, 0], [2, 0, 1])
        self.check((pair, helper.path(2), pair), [0, 1], [0, 1], [-13])
        self.check((pair, pair, helper.path(2)), [0, 1], [0, 1], [-13])
        self.check((pair, pair, pair), [0, 0], [0, 1], [-13])
        self.check((pair, pair, pair), [0, 1], [0, 0], [-13])

    def test_no_maps(self):
        # None of the first into the second, or of the second into the third, or neither.
        for graphs in [
            (helper.path(2), (3, []), (2, [])),
            ((2, []), helper.ring(3), helper.path(3)),
            (helper.LOOP, helper.complete(3), helper.PAIR),
        ]:
            n, m, o = [places for places, arrows in graphs]
            for behind, mapping in itertools.product(all_lists(m, o), all_lists(n, m)):
                self.check(graphs, behind, mapping, [-13])

    def test_each_place_is_given_and_not_each_arrow_hit(self):
        self.check(((2, []), helper.path(2), helper.PAIR), [1, 0], [1, 0], [2, 0, 1])
        self.check((helper.path(3), helper.ring(3), helper.complete(3)), [2, 0, 1], [1, 2, 0], [3, 0, 1, 2])


class Refusals(helper.RefusesWrongGraphs, unittest.TestCase):
    LISTS = [([], []), ([0], [0]), ([0, 1, 2, 3, 4], [LARGE] * 8), ([LARGE], [0, 1, 2, 3, 4, 5, 6, 7])]

    def answers(self, first_graph, second_graph):
        """With a right graph as the third, as the second, and as the first."""
        threes = [
            (first_graph, second_graph, helper.LOOP),
            (first_graph, helper.LOOP, second_graph),
            (helper.DOT, first_graph, second_graph),
        ]
        return [after_of(graphs, behind, mapping) for graphs in threes for behind, mapping in self.LISTS]

    def check_three(self, graphs):
        for behind, mapping in self.LISTS:
            self.assertEqual(after_of(graphs, behind, mapping), [-22], (graphs, behind, mapping))

    def test_one_of_three_is_wrong(self):
        for wrong in helper.WRONG_GRAPHS:
            for right in (helper.DOT, helper.LOOP, helper.full(5)):
                self.check_three((wrong, right, right))
                self.check_three((right, wrong, right))
                self.check_three((right, right, wrong))

    def test_all_three_are_wrong(self):
        for graphs in itertools.product(helper.WRONG_GRAPHS, repeat=3):
            self.assertEqual(after_of(graphs, [0], [0]), [-22], graphs)

    def test_each_list_beside_a_wrong_graph(self):
        for behind, mapping in itertools.product(helper.ANY_LISTS, repeat=2):
            for wrong in helper.WRONG_GRAPHS[::3]:
                self.assertEqual(after_of((wrong, helper.DOT, helper.DOT), behind, mapping), [-22])
                self.assertEqual(after_of((helper.DOT, wrong, helper.DOT), behind, mapping), [-22])
                self.assertEqual(after_of((helper.DOT, helper.DOT, wrong), behind, mapping), [-22])

    def test_each_list_beside_right_graphs(self):
        for behind, mapping in itertools.product(helper.ANY_LISTS, repeat=2):
            answer = [1, 0] if behind == mapping == [0] else [-13]
            self.assertEqual(after_of((helper.DOT, helper.DOT, helper.DOT), behind, mapping), answer)

    def test_the_third_graph_is_looked_at_ahead_of_mapping(self):
        # mapping isn't a map, and only the third graph is wrong.
        self.assertEqual(after(2, 2, 2, [0, 1], [0, 1], [1, 0, 0, 1], [0, 1], [1, 0]), [-22])
        self.assertEqual(after(2, 2, 0, [0, 1], [0, 1], [], [0, 1], []), [-22])
        self.assertEqual(after(2, 2, LARGE, [0, 1], [0, 1], [0, 1], [0, 1], [1, 0]), [-22])


class Calls(unittest.TestCase):
    def test_what_is_handed_in_is_not_changed(self):
        graphs = [helper.LOOP, helper.full(5), helper.path(3)] + helper.WRONG_GRAPHS[::5]
        for (n, first), (m, second), (o, third) in itertools.product(graphs, repeat=3):
            for behind, mapping in itertools.product(helper.ANY_LISTS, repeat=2):
                handed_in = [first, second, third, behind, mapping]
                kept = [helper.Untouched(numbers) for numbers in handed_in]
                after(n, m, o, kept[0], kept[1], kept[2], kept[3], kept[4])
                self.assertEqual(kept, handed_in)

    def test_maps_are_not_changed(self):
        kept = [helper.Untouched(numbers) for numbers in ([0, 1], [0, 1, 1, 2], [1, 0, 2, 1], [2, 1, 0], [1, 2])]
        self.assertEqual(after(2, 3, 3, kept[0], kept[1], kept[2], kept[3], kept[4]), [2, 1, 0])
        self.assertEqual(kept, [[0, 1], [0, 1, 1, 2], [1, 0, 2, 1], [2, 1, 0], [1, 2]])

    def test_one_list_may_be_handed_in_five_times(self):
        numbers = [0, 1]
        self.assertEqual(after(2, 2, 2, numbers, numbers, numbers, numbers, numbers), [2, 0, 1])
        self.assertEqual(numbers, [0, 1])

    def test_by_name(self):
        answer = after(n=1, m=2, o=3, first=[], second=[0, 1], third=[2, 0], behind=[2, 0], mapping=[1])
        self.assertEqual(answer, [1, 0])

    def test_a_second_call_answers_as_the_first(self):
        for graphs, behind, mapping in [
            (PATH_RING_SQUARE, [0, 3, 1], [0, 1]),
            (PATH_RING_SQUARE, [0, 3, 1], [1, 0]),
            ((helper.DOT, helper.DOT, helper.DOT), [], []),
            ((helper.DOT, helper.DOT, (6, [])), [0], [0]),
        ]:
            answer = after_of(graphs, behind, mapping)
            kept = list(answer)
            after_of((helper.full(4), helper.full(4), helper.full(4)), [3, 2, 1, 0], [0, 1, 1, 0])
            # What was given back is the caller's own.
            answer.append(7)
            answer[0] = 9
            self.assertEqual(after_of(graphs, behind, mapping), kept)

    def test_the_answer_is_a_list_of_whole_numbers(self):
        for graphs, behind, mapping in [
            (PATH_RING_SQUARE, [0, 3, 1], [0, 1]),
            ((helper.LOOP, helper.LOOP, helper.LOOP), [0], [0]),
            ((helper.DOT, helper.DOT, helper.DOT), [], []),
            ((helper.DOT, helper.DOT, (6, [])), [0], [0]),
        ]:
            answer = after_of(graphs, behind, mapping)
            self.assertIs(type(answer), list)
            self.assertEqual({type(number) for number in answer}, {int})
            self.assertEqual(len(answer), 1 + max(answer[0], 0))


if __name__ == "__main__":
    unittest.main()
