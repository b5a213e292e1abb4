import itertools
import unittest

from arrowmaps.graphs import count, nth
from tests import helper


def nth_of(first_graph, second_graph, k):
    n, first = first_graph
    m, second = second_graph
    return nth(n, m, k, first, second)


class MapsTest(unittest.TestCase):
    def check_all(self, first_graph, second_graph, maps):
        """maps: all of them, in order, without how many places there are."""
        self.check_each(first_graph, second_graph, maps, range(len(maps)))

    def check_each(self, first_graph, second_graph, maps, numbers):
        """As check_all, but only the maps of these numbers are asked for."""
        n, first = first_graph
        m, second = second_graph
        self.assertEqual(count(n, m, first, second), [len(maps)], (first_graph, second_graph))
        for k in numbers:
            self.assertEqual(nth(n, m, k, first, second), [n] + maps[k], (first_graph, second_graph, k))
        for k in (len(maps), len(maps) + 1, helper.GREATEST):
            self.assertEqual(nth(n, m, k, first, second), [-33], (first_graph, second_graph, k))


class Ordinary(MapsTest):
    def test_one_arrow(self):
        self.check_all(helper.path(2), (3, [0, 1, 1, 2]), [[0, 1], [1, 2]])
        self.check_all(helper.path(2), (3, [0, 2, 1, 0, 2, 2]), [[0, 2], [1, 0], [2, 2]])
        # The arrow runs from the greater place: the order is that of maps, not of arrows.
        self.check_all((2, [1, 0]), (3, [0, 2, 1, 0, 2, 1]), [[0, 1], [1, 2], [2, 0]])

    def test_rings(self):
        self.check_all(helper.ring(3), helper.ring(3), [[0, 1, 2], [1, 2, 0], [2, 0, 1]])
        self.check_all(helper.ring(4), helper.ring(2), [[0, 1, 0, 1], [1, 0, 1, 0]])

    def test_the_way_of_an_arrow_counts(self):
        into = (3, [0, 2, 1, 2])
        out_of = (3, [0, 1, 0, 2])
        self.check_all(into, out_of, [[0, 0, 1], [0, 0, 2]])
        self.check_all(out_of, into, [[0, 2, 2], [1, 2, 2]])

    def test_all_orders_of_the_places(self):
        orders = [list(order) for order in itertools.permutations(range(4))]
        self.check_all(helper.complete(4), helper.complete(4), orders)

    def test_a_place_without_arrows_gets_each(self):
        self.check_all((3, [0, 2]), helper.path(2), [[0, 0, 1], [0, 1, 1]])

    def test_all_graphs_of_one_and_two_places_by_a_second_way(self):
        graphs = helper.all_graphs(1) + helper.all_graphs(2)
        for first_graph, second_graph in itertools.product(graphs, repeat=2):
            self.check_all(first_graph, second_graph, helper.plain_maps(first_graph, second_graph))

    def test_larger_graphs_by_a_second_way(self):
        lengths = []
        for first_graph, second_graph in helper.some_pairs():
            maps = helper.plain_maps(first_graph, second_graph)
            lengths.append(len(maps))
            # Of very many maps some, and the last: else the test runs long.
            step = 1 + len(maps) // 100
            numbers = list(range(0, len(maps), step)) + [len(maps) - 1]
            self.check_each(first_graph, second_graph, maps, numbers)
        # Else these pairs would show little.
        self.assertGreater(max(lengths), 100)

    def test_no_change_is_among_the_maps_into_itself(self):
        for graph in [helper.ring(5), helper.rising(4), helper.complete(3), helper.LOOP, helper.PAIR]:
            n, arrows = graph
            number = count(n, n, arrows, arrows)[0]
            answers = [nth_of(graph, graph, k) for k in range(number)]
            self.assertIn([n] + list(range(n)), answers)


class Edges(MapsTest):
    def test_one_place_with_an_arrow_to_itself(self):
        self.check_all(helper.LOOP, helper.LOOP, [[0]])
        self.check_all(helper.LOOP, helper.DOT, [])
        self.check_all(helper.DOT, helper.LOOP, [[0]])
        self.check_all(helper.LOOP, (4, [0, 1, 1, 1, 2, 3, 3, 3]), [[1], [3]])
        self.check_all(helper.full(5), helper.LOOP, [[0, 0, 0, 0, 0]])

    def test_no_arrows(self):
        self.check_all((1, []), (1, []), [[0]])
        self.check_all((1, []), (5, []), [[0], [1], [2], [3], [4]])
        self.check_all((5, []), (1, []), [[0, 0, 0, 0, 0]])
        self.check_all((2, []), (2, []), [[0, 0], [0, 1], [1, 0], [1, 1]])
        self.check_all((2, []), (3, []), [[u, v] for u in range(3) for v in range(3)])
        self.check_all((3, []), (2, []), [list(given) for given in itertools.product((0, 1), repeat=3)])

    def test_the_most_maps(self):
        for second_graph in ((5, []), helper.full(5)):
            self.assertEqual(nth_of((5, []), second_graph, 0), [5, 0, 0, 0, 0, 0])
            self.assertEqual(nth_of((5, []), second_graph, 1), [5, 0, 0, 0, 0, 1])
            self.assertEqual(nth_of((5, []), second_graph, 625), [5, 1, 0, 0, 0, 0])
            self.assertEqual(nth_of((5, []), second_graph, 3124), [5, 4, 4, 4, 4, 4])
            self.assertEqual(nth_of((5, []), second_graph, 3125), [-33])
            self.assertEqual(nth_of((5, []), second_graph, helper.GREATEST), [-33])

    def test_arrows_both_ways(self):
        self.check_all(helper.PAIR, helper.PAIR, [[0, 1], [1, 0]])
        self.check_all(helper.PAIR, helper.LOOP, [[0, 0]])
        self.check_all(helper.PAIR, helper.path(2), [])
        self.check_all(helper.PAIR, (3, [0, 1, 1, 2, 2, 1]), [[1, 2], [2, 1]])

    def test_no_maps(self):
        self.check_all(helper.path(2), (5, []), [])
        self.check_all(helper.complete(5), helper.complete(4), [])
        self.assertEqual(nth_of(helper.ring(3), helper.path(3), 0), [-33])


class Refusals(helper.RefusesWrongGraphs, unittest.TestCase):
    def answers(self, first_graph, second_graph):
        # With each k, those that are too great among them: -22 is told ahead of -33.
        return [nth_of(first_graph, second_graph, k) for k in (0, 1, 3125, helper.GREATEST)]


class Calls(unittest.TestCase):
    def test_what_is_handed_in_is_not_changed(self):
        graphs = [helper.LOOP, helper.full(4), helper.path(3)] + helper.WRONG_GRAPHS
        for (n, first), (m, second) in itertools.product(graphs, repeat=2):
            for k in (0, helper.GREATEST):
                first_kept = helper.Untouched(first)
                second_kept = helper.Untouched(second)
                nth(n, m, k, first_kept, second_kept)
                self.assertEqual((first_kept, second_kept), (first, second))

    def test_one_list_may_be_handed_in_twice(self):
        arrows = [0, 1, 1, 2, 2, 0]
        self.assertEqual(nth(3, 3, 1, arrows, arrows), [3, 1, 2, 0])
        self.assertEqual(arrows, [0, 1, 1, 2, 2, 0])

    def test_a_second_call_answers_as_the_first(self):
        for first_graph, second_graph, k in [
            (helper.ring(3), helper.complete(4), 5),
            (helper.ring(3), helper.complete(4), 24),
            (helper.path(2), (2, []), 0),
            ((6, []), helper.LOOP, 0),
        ]:
            answer = nth_of(first_graph, second_graph, k)
            kept = list(answer)
            nth_of(helper.full(3), helper.full(4), 7)
            # What was given back is the caller's own.
            answer.append(7)
            answer[0] = 9
            self.assertEqual(nth_of(first_graph, second_graph, k), kept)

    def test_the_answer_is_a_list_of_whole_numbers(self):
        for first_graph, second_graph, k in [
            (helper.LOOP, helper.LOOP, 0),
            (helper.path(3), helper.rising(5), 4),
            (helper.LOOP, helper.DOT, 0),
            (helper.DOT, (0, []), 0),
        ]:
            answer = nth_of(first_graph, second_graph, k)
            self.assertIs(type(answer), list)
            self.assertEqual({type(number) for number in answer}, {int})
            self.assertEqual(len(answer), 1 + max(answer[0], 0))


if __name__ == "__main__":
    unittest.main()
