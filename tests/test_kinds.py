import itertools
import math
import unittest

from arrowmaps.graphs import count, is_map, kinds, nth
from tests import helper


def kinds_of(first_graph, second_graph):
    n, first = first_graph
    m, second = second_graph
    return kinds(n, m, first, second)


def lists_that_give_each(n, m):
    """How many lists of n numbers below m have each of these."""
    return sum((-1) ** left * math.comb(m, left) * (m - left) ** n for left in range(m + 1))


class KindsTest(unittest.TestCase):
    def check(self, first_graph, second_graph, answer):
        self.assertEqual(kinds_of(first_graph, second_graph), answer, (first_graph, second_graph))

    def check_by_other_calls(self, first_graph, second_graph):
        """The numbers agree with what count, nth and is_map tell."""
        n, first = first_graph
        m, second = second_graph
        number = count(n, m, first, second)[0]
        self.assertEqual(nth(n, m, number, first, second), [-33])
        sums = [0, 0, 0, 0]
        for k in range(number):
            mapping = nth(n, m, k, first, second)[1:]
            fits, none_twice, each, hit = is_map(n, m, first, second, mapping)
            for place, one in enumerate((fits, none_twice, each, each * hit)):
                sums[place] += one
        self.assertEqual(sums[0], number)
        self.check(first_graph, second_graph, sums)


class Ordinary(KindsTest):
    def test_rings(self):
        self.check(helper.ring(3), helper.ring(3), [3, 3, 3, 3])
        self.check(helper.ring(4), helper.ring(2), [2, 0, 2, 2])
        self.check(helper.both_ways(helper.ring(5)), helper.both_ways(helper.ring(5)), [10, 10, 10, 10])

    def test_paths(self):
        self.check(helper.path(3), helper.rising(5), [10, 10, 0, 0])
        self.check(helper.path(5), helper.rising(5), [1, 1, 1, 0])
        self.check(helper.path(3), helper.ring(3), [3, 3, 3, 0])
        # Round and once more at the beginning: each arrow is hit.
        self.check(helper.path(4), helper.ring(3), [3, 0, 3, 3])

    def test_colourings(self):
        # By three colours a ring of four takes two in 6 ways, and else one colour twice, which
        # keeps the other two apart: their arrows aren't hit.
        self.check(helper.both_ways(helper.ring(4)), helper.complete(3), [18, 0, 12, 0])
        self.check(helper.both_ways(helper.ring(5)), helper.complete(3), [30, 0, 30, 30])
        self.check(helper.complete(3), helper.complete(5), [60, 60, 0, 0])
        self.check(helper.complete(4), helper.complete(4), [24, 24, 24, 24])

    def test_the_last_number_may_count_places_given_twice(self):
        self.check(helper.path(2), helper.LOOP, [1, 0, 1, 1])
        self.check((3, [0, 1, 2, 1]), helper.path(2), [1, 0, 1, 1])

    def test_the_last_number_asks_for_each_place_too(self):
        # Each arrow is hit, and a place without arrows isn't given.
        self.check(helper.LOOP, (2, [0, 0]), [1, 1, 0, 0])
        self.check(helper.path(2), (3, [0, 2]), [1, 1, 0, 0])
        self.check((2, []), (3, []), [9, 6, 0, 0])
        self.check((2, [0, 0]), (2, [0, 0]), [2, 1, 1, 1])
        self.check((3, [0, 1]), (3, [0, 2]), [3, 1, 1, 1])

    def test_the_way_of_an_arrow_counts(self):
        into = (3, [0, 2, 1, 2])
        out_of = (3, [0, 1, 0, 2])
        self.check(into, into, [4, 2, 2, 2])
        self.check(into, out_of, [2, 0, 0, 0])
        self.check(out_of, into, [2, 0, 0, 0])

    def test_more_places_in_the_first_than_in_the_second(self):
        self.check((3, []), (2, []), [8, 0, 6, 6])
        self.check((3, [0, 1]), helper.path(2), [2, 0, 2, 2])
        self.check(helper.path(5), helper.ring(2), [2, 0, 2, 2])
        # Two arrows, each to either of two; in two of the four ways not to the same.
        self.check((4, [0, 1, 2, 3]), helper.path(3), [4, 0, 2, 2])

    def test_fewer_places_in_the_first_than_in_the_second(self):
        self.check(helper.path(2), helper.path(3), [2, 2, 0, 0])
        self.check((2, []), (5, []), [25, 20, 0, 0])
        self.check(helper.path(2), (3, [0, 0, 1, 2]), [2, 1, 0, 0])

    def test_as_many_places(self):
        self.check((3, []), (3, []), [27, 6, 6, 6])
        self.check(helper.path(2), helper.path(2), [1, 1, 1, 1])
        self.check(helper.path(3), helper.rising(3), [1, 1, 1, 0])
        self.check(helper.rising(3), helper.path(3), [0, 0, 0, 0])


class BySecondWay(KindsTest):
    def test_all_graphs_of_one_and_two_places(self):
        graphs = helper.all_graphs(1) + helper.all_graphs(2)
        for first_graph, second_graph in itertools.product(graphs, repeat=2):
            self.check(first_graph, second_graph, helper.plain_kinds(first_graph, second_graph))

    def test_all_graphs_of_three_places(self):
        for other in [(3, [0, 1, 1, 1, 1, 2, 2, 0]), (3, [1, 0]), (4, [0, 2, 2, 3, 3, 2]), (2, [0, 1, 1, 1])]:
            for graph in helper.all_graphs(3):
                self.check(graph, other, helper.plain_kinds(graph, other))
                self.check(other, graph, helper.plain_kinds(other, graph))

    def test_larger_graphs(self):
        answers = []
        for first_graph, second_graph in helper.some_pairs():
            answers.append(helper.plain_kinds(first_graph, second_graph))
            self.check(first_graph, second_graph, answers[-1])
        # Else these pairs would show little.
        self.assertGreater(len([answer for answer in answers if answer[2] > 0]), 5)

    def test_larger_graphs_into_themselves(self):
        for places, step in ((4, 2003), (5, 1000003)):
            for bits in range(0, 1 << places * places, step):
                graph = helper.graph_of(places, bits)
                self.check(graph, graph, helper.plain_kinds(graph, graph))


class ByOtherCalls(KindsTest):
    def test_all_graphs_of_one_and_two_places(self):
        graphs = helper.all_graphs(1) + helper.all_graphs(2)
        for first_graph, second_graph in itertools.product(graphs, repeat=2):
            self.check_by_other_calls(first_graph, second_graph)

    def test_larger_graphs(self):
        for first_graph, second_graph in [
            (helper.ring(4), helper.PAIR),
            (helper.path(3), helper.rising(4)),
            (helper.path(4), helper.ring(3)),
            (helper.both_ways(helper.ring(4)), helper.complete(3)),
            ((4, [0, 0, 1, 2, 3, 1]), (4, [0, 1, 1, 1, 1, 2, 2, 3, 3, 0])),
            ((4, [0, 1, 2, 3]), (3, [0, 1, 1, 2])),
            ((4, []), (3, [])),
            ((3, []), (4, [])),
            (helper.complete(4), helper.full(4)),
            (helper.ring(3), helper.path(3)),
        ]:
            self.check_by_other_calls(first_graph, second_graph)

    def test_the_first_number_is_what_count_answers(self):
        for (n, first), (m, second) in helper.some_pairs():
            self.assertEqual(kinds(n, m, first, second)[:1], count(n, m, first, second))

    def test_no_change_is_of_every_kind(self):
        for graph in helper.all_graphs(3) + [helper.ring(5), helper.rising(5), helper.LOOP, helper.PAIR]:
            self.assertGreater(min(kinds_of(graph, graph)), 0, graph)


class Edges(KindsTest):
    def test_one_place_with_an_arrow_to_itself(self):
        self.check(helper.LOOP, helper.LOOP, [1, 1, 1, 1])
        self.check(helper.LOOP, helper.DOT, [0, 0, 0, 0])
        self.check(helper.DOT, helper.LOOP, [1, 1, 1, 0])
        self.check(helper.DOT, helper.DOT, [1, 1, 1, 1])
        self.check(helper.LOOP, (4, [0, 1, 1, 1, 2, 3, 3, 3]), [2, 2, 0, 0])
        self.check(helper.full(5), helper.LOOP, [1, 0, 1, 1])
        self.check((5, []), helper.LOOP, [1, 0, 1, 0])

    def test_no_arrows(self):
        for n, m in itertools.product(range(1, 6), repeat=2):
            each = lists_that_give_each(n, m)
            self.check((n, []), (m, []), [m ** n, math.perm(m, n), each, each])
            self.check((n, []), helper.full(m), [m ** n, math.perm(m, n), each, 0])

    def test_every_arrow(self):
        for n, m in itertools.product(range(1, 6), repeat=2):
            each = lists_that_give_each(n, m)
            self.check(helper.full(n), helper.full(m), [m ** n, math.perm(m, n), each, each])

    def test_arrows_both_ways(self):
        self.check(helper.PAIR, helper.PAIR, [2, 2, 2, 2])
        self.check(helper.path(2), helper.PAIR, [2, 2, 2, 0])
        self.check(helper.PAIR, helper.path(2), [0, 0, 0, 0])
        self.check(helper.PAIR, helper.LOOP, [1, 0, 1, 1])
        self.check(helper.complete(5), helper.complete(5), [120, 120, 120, 120])

    def test_no_maps(self):
        self.check(helper.path(2), (5, []), [0, 0, 0, 0])
        self.check(helper.complete(5), helper.complete(4), [0, 0, 0, 0])
        self.check(helper.ring(3), helper.path(3), [0, 0, 0, 0])
        self.check(helper.full(5), helper.complete(5), [0, 0, 0, 0])

    def test_each_place_is_given_and_not_each_arrow_hit(self):
        self.check((2, []), helper.path(2), [4, 2, 2, 0])
        self.check((3, [0, 1]), (2, [0, 0, 0, 1]), [4, 0, 3, 0])
        # All eight lists are maps, and one arrow hits one of two.
        self.check((3, [0, 0]), (2, [0, 0, 1, 1]), [8, 0, 6, 0])
        # Some that give each place hit each arrow, and some don't.
        self.check((3, [0, 0, 1, 1]), (2, [0, 0, 1, 1]), [8, 0, 6, 4])


class Refusals(helper.RefusesWrongGraphs, unittest.TestCase):
    def answers(self, first_graph, second_graph):
        return [kinds_of(first_graph, second_graph)]


class Calls(unittest.TestCase):
    def test_what_is_handed_in_is_not_changed(self):
        graphs = [helper.LOOP, helper.full(5), helper.path(3)] + helper.WRONG_GRAPHS
        for (n, first), (m, second) in itertools.product(graphs, repeat=2):
            first_kept = helper.Untouched(first)
            second_kept = helper.Untouched(second)
            kinds(n, m, first_kept, second_kept)
            self.assertEqual((first_kept, second_kept), (first, second))

    def test_one_list_may_be_handed_in_twice(self):
        arrows = [0, 1, 1, 2, 2, 0]
        self.assertEqual(kinds(3, 3, arrows, arrows), [3, 3, 3, 3])
        self.assertEqual(arrows, [0, 1, 1, 2, 2, 0])

    def test_a_second_call_answers_as_the_first(self):
        for first_graph, second_graph in [
            (helper.ring(3), helper.complete(4)),
            (helper.path(2), (2, [])),
            ((6, []), helper.LOOP),
        ]:
            answer = kinds_of(first_graph, second_graph)
            kept = list(answer)
            kinds_of(helper.full(4), helper.full(4))
            # What was given back is the caller's own.
            answer.append(7)
            answer[0] = 9
            self.assertEqual(kinds_of(first_graph, second_graph), kept)

    def test_the_answer_is_a_list_of_whole_numbers(self):
        for first_graph, second_graph, length in [
            (helper.LOOP, helper.DOT, 4),
            (helper.DOT, helper.DOT, 4),
            (helper.full(3), helper.full(3), 4),
            (helper.DOT, (0, []), 1),
        ]:
            answer = kinds_of(first_graph, second_graph)
            self.assertIs(type(answer), list)
            self.assertEqual([type(number) for number in answer], [int] * length)


if __name__ == "__main__":
    unittest.main()
