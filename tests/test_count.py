import itertools
import unittest

from arrowmaps.graphs import count
from tests import helper


def count_of(first_graph, second_graph):
    n, first = first_graph
    m, second = second_graph
    return count(n, m, first, second)


class Ordinary(unittest.TestCase):
    def check(self, first_graph, second_graph, number):
        self.assertEqual(count_of(first_graph, second_graph), [number], (first_graph, second_graph))

    def test_one_arrow_goes_to_each_arrow(self):
        self.check(helper.path(2), helper.rising(5), 10)
        self.check(helper.path(2), helper.ring(4), 4)
        self.check(helper.path(2), helper.full(5), 25)

    def test_paths(self):
        # A path of three places into the rising graph picks three of five places.
        self.check(helper.path(3), helper.rising(5), 10)
        self.check(helper.path(5), helper.rising(5), 1)
        self.check(helper.path(5), helper.rising(4), 0)
        self.check(helper.path(5), helper.ring(5), 5)

    def test_rings(self):
        self.check(helper.ring(3), helper.ring(3), 3)
        self.check(helper.ring(4), helper.ring(2), 2)
        self.check(helper.ring(5), helper.ring(3), 0)

    def test_colourings(self):
        # Maps into the complete graph of c places are colourings by c colours:
        # of a ring of r places (c - 1) ** r + (-1) ** r * (c - 1).
        self.check(helper.both_ways(helper.ring(4)), helper.complete(3), 18)
        self.check(helper.both_ways(helper.ring(5)), helper.complete(3), 30)
        self.check(helper.both_ways(helper.ring(5)), helper.complete(2), 0)
        self.check(helper.complete(3), helper.complete(5), 60)

    def test_the_way_of_an_arrow_counts(self):
        # Two arrows into one place, and two out of one, into the same.
        into = (3, [0, 2, 1, 2])
        out_of = (3, [0, 1, 0, 2])
        self.check(into, into, 4)
        self.check(into, out_of, 2)
        self.check(out_of, into, 2)

    def test_first_and_second_are_not_exchanged(self):
        self.check((3, []), (2, []), 8)
        self.check((2, []), (3, []), 9)

    def test_all_graphs_of_one_and_two_places_by_a_second_way(self):
        graphs = helper.all_graphs(1) + helper.all_graphs(2)
        for first_graph, second_graph in itertools.product(graphs, repeat=2):
            self.check(first_graph, second_graph, len(helper.plain_maps(first_graph, second_graph)))

    def test_all_graphs_of_three_places_by_a_second_way(self):
        other = (3, [0, 1, 1, 1, 1, 2, 2, 0])
        for graph in helper.all_graphs(3):
            self.check(graph, other, len(helper.plain_maps(graph, other)))
            self.check(other, graph, len(helper.plain_maps(other, graph)))

    def test_larger_graphs_by_a_second_way(self):
        for first_graph, second_graph in helper.some_pairs():
            self.check(first_graph, second_graph, len(helper.plain_maps(first_graph, second_graph)))


class Edges(unittest.TestCase):
    def test_one_place_with_an_arrow_to_itself(self):
        self.assertEqual(count_of(helper.LOOP, helper.LOOP), [1])
        self.assertEqual(count_of(helper.LOOP, helper.DOT), [0])
        self.assertEqual(count_of(helper.DOT, helper.LOOP), [1])
        self.assertEqual(count_of(helper.DOT, helper.DOT), [1])
        self.assertEqual(count_of(helper.LOOP, (4, [0, 1, 1, 1, 2, 3, 3, 3])), [2])
        self.assertEqual(count_of(helper.full(5), helper.LOOP), [1])

    def test_no_arrows(self):
        for n, m in itertools.product(range(1, 6), repeat=2):
            self.assertEqual(count(n, m, [], []), [m ** n])
            self.assertEqual(count_of((n, []), helper.full(m)), [m ** n])

    def test_every_arrow(self):
        self.assertEqual(count_of(helper.full(5), helper.full(5)), [3125])

    def test_arrows_both_ways(self):
        self.assertEqual(count_of(helper.PAIR, helper.PAIR), [2])
        self.assertEqual(count_of(helper.path(2), helper.PAIR), [2])
        self.assertEqual(count_of(helper.PAIR, helper.path(2)), [0])
        self.assertEqual(count_of(helper.PAIR, helper.LOOP), [1])
        self.assertEqual(count_of(helper.complete(5), helper.complete(5)), [120])

    def test_no_maps(self):
        self.assertEqual(count_of(helper.path(2), (5, [])), [0])
        self.assertEqual(count_of(helper.complete(5), helper.complete(4)), [0])
        self.assertEqual(count_of(helper.ring(3), helper.path(3)), [0])


class Refusals(helper.RefusesWrongGraphs, unittest.TestCase):
    def answers(self, first_graph, second_graph):
        return [count_of(first_graph, second_graph)]

    def test_the_greatest_place_is_there(self):
        for places in range(1, 6):
            graph = (places, [places - 1, places - 1])
            self.assertEqual(count_of(helper.LOOP, graph), [1])
            self.assertEqual(count_of(graph, helper.LOOP), [1])


class Calls(unittest.TestCase):
    def test_what_is_handed_in_is_not_changed(self):
        graphs = [helper.LOOP, helper.full(5), helper.path(3)] + helper.WRONG_GRAPHS
        for (n, first), (m, second) in itertools.product(graphs, repeat=2):
            first_kept = helper.Untouched(first)
            second_kept = helper.Untouched(second)
            count(n, m, first_kept, second_kept)
            self.assertEqual((first_kept, second_kept), (first, second))

    def test_one_list_may_be_handed_in_twice(self):
        arrows = [0, 1, 1, 2, 2, 0]
        self.assertEqual(count(3, 3, arrows, arrows), [3])
        self.assertEqual(arrows, [0, 1, 1, 2, 2, 0])

    def test_a_second_call_answers_as_the_first(self):
        for first_graph, second_graph in [
            (helper.ring(3), helper.complete(4)),
            (helper.path(2), (2, [])),
            ((6, []), helper.LOOP),
        ]:
            answer = count_of(first_graph, second_graph)
            kept = list(answer)
            count_of(helper.full(4), helper.full(4))
            # What was given back is the caller's own.
            answer.append(7)
            self.assertEqual(count_of(first_graph, second_graph), kept)

    def test_the_answer_is_a_list_of_one_whole_number(self):
        for first_graph, second_graph in [(helper.LOOP, helper.DOT), (helper.DOT, helper.DOT), (helper.DOT, (0, []))]:
            answer = count_of(first_graph, second_graph)
            self.assertIs(type(answer), list)
            self.assertEqual([type(number) for number in answer], [int])


if __name__ == "__main__":
    unittest.main()
