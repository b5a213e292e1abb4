import itertools
import unittest

from arrowmaps.graphs import count, is_map, kinds, nth, same
from tests import helper

# Five places: few arrows and many, some to the place itself, some both ways.
FIVES = [
    helper.path(5),
    helper.ring(5),
    helper.rising(5),
    helper.both_ways(helper.path(5)),
    helper.both_ways(helper.ring(5)),
    (5, [0, 0]),
    (5, [0, 1, 1, 0, 2, 3]),
    (5, [0, 1, 0, 2, 1, 2, 3, 3, 3, 4]),
    helper.graph_of(5, 0b1011001110001011100110101),
]


def same_of(first_graph, second_graph):
    n, first = first_graph
    m, second = second_graph
    return same(n, m, first, second)


class SameTest(unittest.TestCase):
    def check(self, first_graph, second_graph, answer):
        self.assertEqual(same_of(first_graph, second_graph), answer, (first_graph, second_graph))

    def check_not(self, first_graph, second_graph):
        """Neither this way nor the other way."""
        self.check(first_graph, second_graph, [-33])
        self.check(second_graph, first_graph, [-33])

    def check_by_second_way(self, first_graph, second_graph):
        answer = helper.plain_same(first_graph, second_graph)
        self.check(first_graph, second_graph, answer)
        return answer

    def check_by_other_calls(self, first_graph, second_graph):
        """What is told is the first of nth's maps of which is_map says 1 to all that is asked."""
        n, first = first_graph
        m, second = second_graph
        answer = [-33]
        for k in range(count(n, m, first, second)[0]):
            told = nth(n, m, k, first, second)
            if is_map(n, m, first, second, told[1:]) == [1, 1, 1, 1]:
                answer = told
                break
        self.check(first_graph, second_graph, answer)

    def check_both_ways(self, first_graph, second_graph):
        """As the other way; where they are the same, all that can be counted is alike."""
        answer = same_of(first_graph, second_graph)
        back = same_of(second_graph, first_graph)
        self.assertEqual(answer == [-33], back == [-33], (first_graph, second_graph))
        if answer != [-33]:
            (n, first), (m, second) = first_graph, second_graph
            self.assertEqual((n, len(first)), (m, len(second)))
            self.assertEqual(helper.renamed(first_graph, answer[1:]), second_graph)
            self.assertEqual(helper.renamed(second_graph, back[1:]), first_graph)
            undone = [answer[1:].index(place) for place in range(n)]
            self.assertEqual(is_map(m, n, second, first, undone), [1, 1, 1, 1])


class TheSame(SameTest):
    def test_one_way(self):
        self.check(helper.path(2), (2, [1, 0]), [2, 1, 0])
        self.check(helper.path(3), (3, [1, 0, 2, 1]), [3, 2, 1, 0])
        self.check(helper.path(3), (3, [0, 2, 2, 1]), [3, 0, 2, 1])
        self.check((3, [0, 0, 1, 2]), (3, [0, 1, 2, 2]), [3, 2, 0, 1])
        self.check(helper.rising(4), (4, [1, 0, 2, 0, 2, 1, 3, 0, 3, 1, 3, 2]), [4, 3, 2, 1, 0])

    def test_the_map_is_told_and_not_the_one_back(self):
        self.check(helper.path(3), (3, [1, 2, 2, 0]), [3, 1, 2, 0])
        self.check((3, [1, 2, 2, 0]), helper.path(3), [3, 2, 0, 1])

    def test_the_first_of_several_ways(self):
        self.check((3, [0, 1, 0, 2]), (3, [2, 0, 2, 1]), [3, 2, 0, 1])
        self.check((3, [0, 2, 1, 2]), (3, [1, 0, 2, 0]), [3, 1, 2, 0])
        self.check(helper.ring(3), (3, [0, 2, 1, 0, 2, 1]), [3, 0, 2, 1])
        self.check((4, [0, 1, 2, 3]), (4, [1, 0, 3, 2]), [4, 1, 0, 3, 2])
        self.check((4, [0, 3]), (4, [2, 1]), [4, 2, 0, 3, 1])
        # Beside 0 stand 1 and 3 in the one, 2 and 3 in the other.
        self.check(
            helper.both_ways(helper.ring(4)),
            helper.both_ways((4, [0, 2, 0, 3, 1, 2, 1, 3])),
            [4, 0, 2, 1, 3],
        )

    def test_no_change_where_it_is_one_of_several(self):
        for graph in [(4, []), helper.full(4), helper.complete(4), helper.ring(4), (4, [0, 1, 2, 3])]:
            self.assertGreater(kinds(4, 4, graph[1], graph[1])[3], 1)
            self.check(graph, graph, [4, 0, 1, 2, 3])

    def test_a_graph_and_itself(self):
        graphs = helper.all_graphs(1) + helper.all_graphs(2) + helper.all_graphs(3)
        for n, arrows in graphs + [helper.rising(4), helper.ring(4)] + FIVES:
            self.check((n, arrows), (n, arrows), [n] + list(range(n)))


class NotTheSame(SameTest):
    def test_as_many_places_and_arrows(self):
        self.check_not((3, [0, 1, 0, 2]), (3, [0, 2, 1, 2]))
        self.check_not((2, [0, 0]), helper.path(2))
        self.check_not((2, [0, 0, 1, 1]), helper.PAIR)
        self.check_not((2, [0, 0, 0, 1]), (2, [0, 0, 1, 0]))
        self.check_not(helper.ring(3), helper.rising(3))
        self.check_not((4, [0, 1, 1, 2]), (4, [0, 1, 2, 3]))
        # As many arrows out of the places and into them, too.
        self.check_not((3, [0, 1, 1, 0, 2, 2]), helper.ring(3))
        self.check_not(helper.ring(4), (4, [0, 1, 1, 0, 2, 3, 3, 2]))

    def test_as_many_places_and_not_as_many_arrows(self):
        self.check_not((2, []), helper.path(2))
        self.check_not(helper.path(2), helper.PAIR)
        self.check_not(helper.path(3), helper.rising(3))
        self.check_not(helper.path(4), helper.ring(4))
        self.check_not(helper.complete(3), helper.full(3))

    def test_not_as_many_places(self):
        # As many arrows: each is hit, one place is left over.
        self.check_not(helper.LOOP, (2, [0, 0]))
        self.check_not(helper.LOOP, (2, [1, 1]))
        self.check_not(helper.path(2), (3, [0, 1]))
        self.check_not(helper.ring(4), (5, helper.ring(4)[1]))
        # Places that are given twice: each is given, each arrow is hit.
        self.check_not(helper.path(2), helper.LOOP)
        self.check_not((3, [0, 1, 2, 1]), helper.path(2))
        self.check_not(helper.ring(4), helper.ring(2))
        for n, m in itertools.permutations(range(1, 6), 2):
            self.check((n, []), (m, []), [-33])
            self.check(helper.full(n), helper.full(m), [-33])
            self.check(helper.path(n), helper.path(m), [-33])


class FivePlaces(SameTest):
    def test_one_way(self):
        self.check(helper.path(5), (5, [1, 0, 2, 1, 3, 2, 4, 3]), [5, 4, 3, 2, 1, 0])
        self.check(helper.path(5), (5, [0, 3, 1, 0, 2, 4, 3, 2]), [5, 1, 0, 3, 2, 4])

    def test_several_ways(self):
        # Round the other way, and in steps of two.
        self.check(helper.ring(5), (5, [0, 4, 1, 0, 2, 1, 3, 2, 4, 3]), [5, 0, 4, 3, 2, 1])
        self.check(helper.ring(5), (5, [0, 2, 1, 3, 2, 4, 3, 0, 4, 1]), [5, 0, 2, 4, 1, 3])
        self.check((5, [2, 2]), (5, [4, 4]), [5, 0, 1, 4, 2, 3])
        self.check((5, [0, 0]), (5, [4, 4]), [5, 4, 0, 1, 2, 3])
        self.check((5, [1, 3]), (5, [4, 0]), [5, 1, 4, 2, 0, 3])

    def test_not_the_same(self):
        self.check_not(helper.path(5), helper.ring(5))
        self.check_not(helper.ring(5), (5, [0, 1, 1, 2, 2, 0, 3, 4, 4, 3]))
        self.check_not(helper.complete(5), helper.full(5))
        # Four arrows in a row, and four out of one place.
        self.check_not(helper.path(5), (5, [0, 1, 0, 2, 0, 3, 0, 4]))
        for one, other in itertools.combinations(FIVES, 2):
            self.check_not(one, other)

    def test_other_names_by_a_second_way(self):
        for graph in FIVES:
            for names in list(itertools.permutations(range(5)))[::11]:
                answer = self.check_by_second_way(graph, helper.renamed(graph, names))
                self.assertEqual(answer[0], 5)
                self.assertLessEqual(answer[1:], list(names))


class BySecondWay(SameTest):
    def test_all_graphs_of_one_and_two_places(self):
        graphs = helper.all_graphs(1) + helper.all_graphs(2)
        for first_graph, second_graph in itertools.product(graphs, repeat=2):
            self.check_by_second_way(first_graph, second_graph)

    def test_graphs_of_three_places(self):
        graphs = helper.all_graphs(3)
        for other in [(3, [0, 1, 1, 1, 1, 2, 2, 0]), (3, [1, 0]), (3, [0, 2, 2, 2]), helper.ring(3), (2, [0, 1, 1, 1])]:
            for graph in graphs:
                self.check_by_second_way(graph, other)
                self.check_by_second_way(other, graph)

    def test_other_names_for_three_places(self):
        for graph in helper.all_graphs(3):
            for names in itertools.permutations(range(3)):
                answer = self.check_by_second_way(graph, helper.renamed(graph, names))
                self.assertEqual(answer[0], 3)

    def test_other_names_for_four_places(self):
        for bits in range(0, 1 << 16, 1009):
            graph = helper.graph_of(4, bits)
            for names in list(itertools.permutations(range(4)))[::5]:
                answer = self.check_by_second_way(graph, helper.renamed(graph, names))
                self.assertEqual(answer[0], 4)

    def test_an_arrow_elsewhere(self):
        # Round three of four places, and one arrow more: some of these are the same, some are not.
        round_three = 0b0000000101000010
        graphs = [helper.graph_of(4, round_three | 1 << rank) for rank in range(16)]
        answers = [self.check_by_second_way(one, other) for one, other in itertools.product(graphs, repeat=2)]
        self.assertGreater(answers.count([-33]), 20)
        self.assertGreater(len(answers) - answers.count([-33]), 20)

    def test_larger_graphs(self):
        for first_graph, second_graph in helper.some_pairs():
            self.check_by_second_way(first_graph, second_graph)


class ByOtherCalls(SameTest):
    def test_all_graphs_of_one_and_two_places(self):
        graphs = helper.all_graphs(1) + helper.all_graphs(2)
        for first_graph, second_graph in itertools.product(graphs, repeat=2):
            self.check_by_other_calls(first_graph, second_graph)

    def test_larger_graphs(self):
        for first_graph, second_graph in [
            (helper.ring(4), helper.PAIR),
            (helper.ring(4), (4, [0, 3, 1, 2, 2, 0, 3, 1])),
            (helper.path(3), (3, [0, 2, 1, 0])),
            (helper.path(4), helper.ring(4)),
            ((4, []), (4, [])),
            ((4, [3, 3]), (4, [1, 1])),
            (helper.complete(4), helper.full(4)),
            (helper.ring(3), helper.path(3)),
        ]:
            self.check_by_other_calls(first_graph, second_graph)


class BothWays(SameTest):
    def test_all_graphs_of_one_and_two_places(self):
        graphs = helper.all_graphs(1) + helper.all_graphs(2)
        for first_graph, second_graph in itertools.product(graphs, repeat=2):
            self.check_both_ways(first_graph, second_graph)

    def test_three_places(self):
        for first_graph, second_graph in itertools.product(helper.all_graphs(3)[::13], repeat=2):
            self.check_both_ways(first_graph, second_graph)

    def test_other_names(self):
        for graph in FIVES + [helper.ring(4), helper.rising(4)]:
            for names in list(itertools.permutations(range(graph[0])))[1::23]:
                self.check_both_ways(graph, helper.renamed(graph, names))


class Edges(SameTest):
    def test_one_place_with_an_arrow_to_itself(self):
        self.check(helper.LOOP, helper.LOOP, [1, 0])
        self.check(helper.DOT, helper.DOT, [1, 0])
        self.check_not(helper.LOOP, helper.DOT)
        self.check((3, [0, 0]), (3, [1, 1]), [3, 1, 0, 2])
        self.check_not((2, [0, 0]), (2, [0, 0, 1, 1]))
        self.check_not(helper.full(5), helper.LOOP)

    def test_no_arrows(self):
        for n in range(1, 6):
            self.check((n, []), (n, []), [n] + list(range(n)))
            self.check_not((n, []), helper.full(n))

    def test_every_arrow(self):
        for n in range(1, 6):
            self.check(helper.full(n), helper.full(n), [n] + list(range(n)))

    def test_arrows_both_ways(self):
        self.check(helper.PAIR, helper.PAIR, [2, 0, 1])
        self.check(helper.complete(5), helper.complete(5), [5, 0, 1, 2, 3, 4])
        self.check((3, [0, 1, 1, 0]), (3, [1, 2, 2, 1]), [3, 1, 2, 0])
        self.check((3, [0, 1, 1, 0, 1, 2]), (3, [0, 1, 0, 2, 2, 0]), [3, 2, 0, 1])
        self.check_not(helper.PAIR, helper.path(2))
        self.check_not(helper.PAIR, helper.LOOP)

    def test_no_maps(self):
        self.check_not(helper.path(2), (2, []))
        self.check_not(helper.complete(5), helper.complete(4))
        self.check_not(helper.ring(3), helper.path(3))
        self.check_not((3, [0, 1, 1, 0]), (3, [0, 1, 1, 2]))

    def test_each_place_is_given_and_not_each_arrow_hit(self):
        # Each place is given by some map that gives none twice, too.
        for first_graph, second_graph in [
            (helper.DOT, helper.LOOP),
            ((2, []), helper.path(2)),
            (helper.path(2), helper.PAIR),
            (helper.path(3), helper.ring(3)),
            (helper.path(5), helper.rising(5)),
            ((5, []), helper.full(5)),
        ]:
            (n, first), (m, second) = first_graph, second_graph
            numbers = kinds(n, m, first, second)
            self.assertGreater(min(numbers[:3]), 0)
            self.check_not(first_graph, second_graph)


class Refusals(helper.RefusesWrongGraphs, unittest.TestCase):
    def answers(self, first_graph, second_graph):
        return [same_of(first_graph, second_graph)]

    def test_it_is_told_ahead_of_33(self):
        # Graphs that wouldn't be the same either.
        for wrong in helper.WRONG_GRAPHS:
            for right in ((4, [0, 3]), helper.ring(5), (1, []), (5, [])):
                self.check_refused(wrong, right)
                self.check_refused(right, wrong)

    def test_a_wrong_graph_and_itself(self):
        for wrong in helper.WRONG_GRAPHS:
            self.check_refused(wrong, wrong)


class Calls(unittest.TestCase):
    def test_what_is_handed_in_is_not_changed(self):
        graphs = [helper.LOOP, helper.full(5), helper.path(3), (3, [1, 0, 2, 1])] + helper.WRONG_GRAPHS
        for (n, first), (m, second) in itertools.product(graphs, repeat=2):
            first_kept = helper.Untouched(first)
            second_kept = helper.Untouched(second)
            same(n, m, first_kept, second_kept)
            self.assertEqual((first_kept, second_kept), (first, second))

    def test_one_list_may_be_handed_in_twice(self):
        arrows = [0, 1, 1, 2, 2, 0]
        self.assertEqual(same(3, 3, arrows, arrows), [3, 0, 1, 2])
        self.assertEqual(arrows, [0, 1, 1, 2, 2, 0])

    def test_a_second_call_answers_as_the_first(self):
        for first_graph, second_graph in [
            (helper.path(3), (3, [1, 0, 2, 1])),
            (helper.ring(3), helper.complete(3)),
            (helper.path(2), (2, [])),
            ((6, []), helper.LOOP),
        ]:
            answer = same_of(first_graph, second_graph)
            kept = list(answer)
            same_of(helper.full(4), helper.full(4))
            # What was given back is the caller's own.
            answer.append(7)
            answer[0] = 9
            self.assertEqual(same_of(first_graph, second_graph), kept)

    def test_the_answer_is_a_list_of_whole_numbers(self):
        for first_graph, second_graph in [
            (helper.LOOP, helper.LOOP),
            (helper.PAIR, helper.PAIR),
            (helper.path(5), helper.path(5)),
            (helper.LOOP, helper.DOT),
            (helper.DOT, (0, [])),
        ]:
            answer = same_of(first_graph, second_graph)
            self.assertIs(type(answer), list)
            self.assertEqual({type(number) for number in answer}, {int})
            self.assertEqual(len(answer), 1 + max(answer[0], 0))


if __name__ == "__main__":
    unittest.main()
