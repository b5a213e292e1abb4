import itertools
import unittest

from arrowmaps.graphs import count, is_map, nth
from tests import helper


def is_map_of(first_graph, second_graph, mapping):
    n, first = first_graph
    m, second = second_graph
    return is_map(n, m, first, second, mapping)


class ListsTest(unittest.TestCase):
    def check(self, first_graph, second_graph, mapping, answer):
        self.assertEqual(
            is_map_of(first_graph, second_graph, mapping), answer, (first_graph, second_graph, mapping)
        )

    def check_lists(self, first_graph, second_graph, lists):
        """Each list, by a second way; gives back what was answered."""
        maps = helper.plain_maps(first_graph, second_graph)
        answers = []
        for given in lists:
            answer = helper.plain_is(first_graph, second_graph, given, maps)
            self.check(first_graph, second_graph, list(given), answer)
            answers.append(tuple(answer))
        return answers


class Ordinary(ListsTest):
    def test_maps_of_each_kind(self):
        self.check(helper.ring(3), helper.ring(3), [1, 2, 0], [1, 1, 1, 1])
        self.check((2, []), helper.path(2), [0, 1], [1, 1, 1, 0])
        self.check(helper.LOOP, (2, [0, 0]), [0], [1, 1, 0, 1])
        self.check(helper.path(2), helper.path(3), [0, 1], [1, 1, 0, 0])
        self.check((3, [0, 1, 2, 1]), helper.path(2), [0, 1, 0], [1, 0, 1, 1])
        self.check((3, []), helper.path(2), [0, 1, 0], [1, 0, 1, 0])
        self.check(helper.path(2), (2, [0, 0]), [0, 0], [1, 0, 0, 1])
        self.check(helper.path(2), (2, [0, 0, 1, 1]), [0, 0], [1, 0, 0, 0])

    def test_lists_of_each_kind_that_lose_an_arrow(self):
        self.check(helper.PAIR, helper.path(2), [0, 1], [0, 1, 1, 1])
        self.check(helper.path(2), (2, [1, 0]), [0, 1], [0, 1, 1, 0])
        self.check(helper.PAIR, (3, [0, 1]), [0, 1], [0, 1, 0, 1])
        self.check(helper.path(2), (3, [1, 2]), [0, 1], [0, 1, 0, 0])
        self.check(helper.path(3), helper.path(2), [0, 1, 0], [0, 0, 1, 1])
        self.check(helper.path(3), (2, [1, 1]), [0, 1, 0], [0, 0, 1, 0])
        self.check(helper.path(3), (3, [0, 1]), [0, 1, 0], [0, 0, 0, 1])
        self.check(helper.path(3), (3, [2, 2]), [0, 1, 0], [0, 0, 0, 0])

    def test_one_lost_arrow_is_enough(self):
        # Into the full graph but for one arrow, each in its turn.
        for lost in range(9):
            graph = helper.graph_of(3, (1 << 9) - 1 - (1 << lost))
            self.check(helper.full(3), graph, [0, 1, 2], [0, 1, 1, 1])
            self.check(graph, helper.full(3), [0, 1, 2], [1, 1, 1, 0])

    def test_the_way_of_an_arrow_counts(self):
        into = (3, [0, 2, 1, 2])
        out_of = (3, [0, 1, 0, 2])
        self.check(into, out_of, [0, 0, 1], [1, 0, 0, 0])
        self.check(into, out_of, [1, 2, 0], [0, 1, 1, 0])
        self.check(helper.path(3), (3, [1, 0, 2, 1]), [2, 1, 0], [1, 1, 1, 1])
        self.check(helper.path(3), (3, [1, 0, 2, 1]), [0, 1, 2], [0, 1, 1, 0])

    def test_first_and_second_are_not_exchanged(self):
        self.check((3, []), (2, []), [0, 1, 1], [1, 0, 1, 1])
        self.check((2, []), (3, []), [0, 1, 1], [0, 0, 0, 1])
        self.check((2, []), (3, []), [0, 2], [1, 1, 0, 1])
        self.check((3, []), (2, []), [0, 2], [0, 1, 0, 1])

    def test_no_change(self):
        graphs = helper.all_graphs(1) + helper.all_graphs(2) + helper.all_graphs(3)
        for n, arrows in graphs + [helper.ring(5), helper.full(5), helper.complete(4), helper.rising(5)]:
            self.check((n, arrows), (n, arrows), list(range(n)), [1, 1, 1, 1])

    def test_it_agrees_with_the_maps_that_nth_tells(self):
        for first_graph, second_graph in [
            (helper.ring(4), helper.PAIR),
            (helper.path(3), helper.rising(4)),
            ((4, [0, 0, 1, 2, 3, 1]), (4, [0, 1, 1, 1, 1, 2, 2, 3, 3, 0])),
            (helper.ring(3), helper.path(3)),
        ]:
            (n, first), (m, second) = first_graph, second_graph
            number = count(n, m, first, second)[0]
            told = [nth(n, m, k, first, second)[1:] for k in range(number)]
            lists = [list(given) for given in itertools.product(range(m), repeat=n)]
            self.assertEqual([given for given in lists if is_map_of(first_graph, second_graph, given)[0] == 1], told)


class BySecondWay(ListsTest):
    def test_all_graphs_of_one_and_two_places(self):
        lists = [given for length in range(5) for given in itertools.product(range(3), repeat=length)]
        graphs = helper.all_graphs(1) + helper.all_graphs(2)
        answers = []
        for first_graph, second_graph in itertools.product(graphs, repeat=2):
            answers.extend(self.check_lists(first_graph, second_graph, lists))
        # Each of the four numbers as 0 and as 1, with all of the others.
        self.assertEqual(len(set(answers)), 16)

    def test_all_graphs_of_three_places(self):
        lists = [given for length in (2, 3, 4) for given in itertools.product((0, 1, 2, 3), repeat=length)][::7]
        other = (3, [0, 1, 1, 1, 1, 2, 2, 0])
        for graph in helper.all_graphs(3):
            self.check_lists(graph, other, lists)
            self.check_lists(other, graph, lists)

    def test_larger_graphs(self):
        lists = [given for length in range(9) for given in itertools.product((0, 1, 4, 2), repeat=length)][::373]
        lists += [given for given in itertools.permutations(range(6), 5)][::11]
        for first_graph, second_graph in helper.some_pairs():
            maps = helper.plain_maps(first_graph, second_graph)
            self.check_lists(first_graph, second_graph, lists + maps[:: 1 + len(maps) // 20])


class Edges(ListsTest):
    def test_one_place_with_an_arrow_to_itself(self):
        self.check(helper.LOOP, helper.LOOP, [0], [1, 1, 1, 1])
        self.check(helper.LOOP, helper.DOT, [0], [0, 1, 1, 1])
        self.check(helper.DOT, helper.LOOP, [0], [1, 1, 1, 0])
        self.check(helper.DOT, helper.DOT, [0], [1, 1, 1, 1])
        self.check(helper.full(5), helper.LOOP, [0, 0, 0, 0, 0], [1, 0, 1, 1])
        self.check(helper.LOOP, (3, [0, 1, 2, 2]), [2], [1, 1, 0, 0])
        self.check(helper.LOOP, (3, [0, 1, 2, 2]), [1], [0, 1, 0, 0])

    def test_no_arrows(self):
        self.check((3, []), (3, []), [2, 0, 1], [1, 1, 1, 1])
        self.check((3, []), (3, []), [2, 0, 2], [1, 0, 0, 1])
        self.check((5, []), (5, []), [4, 3, 2, 1, 0], [1, 1, 1, 1])
        # None of the first to become one of the second; none of the second to be hit.
        self.check((2, []), helper.PAIR, [0, 1], [1, 1, 1, 0])
        self.check(helper.PAIR, (2, []), [0, 1], [0, 1, 1, 1])

    def test_arrows_both_ways(self):
        self.check(helper.PAIR, helper.PAIR, [1, 0], [1, 1, 1, 1])
        self.check(helper.PAIR, helper.PAIR, [0, 0], [0, 0, 0, 0])
        self.check(helper.path(2), helper.PAIR, [0, 1], [1, 1, 1, 0])
        self.check(helper.path(2), helper.PAIR, [1, 0], [1, 1, 1, 0])
        self.check(helper.complete(5), helper.complete(5), [4, 2, 0, 1, 3], [1, 1, 1, 1])

    def test_each_place_is_given_and_not_each_arrow_hit(self):
        # Nothing becomes the arrow from 2 to 0.
        self.check(helper.path(3), helper.ring(3), [0, 1, 2], [1, 1, 1, 0])
        # Nothing becomes an arrow between 1 and 2; round five places something does.
        self.check(helper.both_ways(helper.ring(4)), helper.complete(3), [0, 1, 0, 2], [1, 0, 1, 0])
        self.check(helper.both_ways(helper.ring(5)), helper.complete(3), [0, 1, 0, 1, 2], [1, 0, 1, 1])


class WrongLists(ListsTest):
    def test_no_list(self):
        self.check(helper.DOT, helper.DOT, [], [0, 1, 0, 1])
        self.check(helper.DOT, helper.LOOP, [], [0, 1, 0, 0])
        # Both places get 0: the arrow becomes the one from 0 to 0.
        self.check(helper.path(2), helper.LOOP, [], [0, 1, 0, 1])
        self.check(helper.path(2), (2, [0, 0]), [], [0, 1, 0, 1])
        self.check(helper.path(2), (2, [1, 1]), [], [0, 1, 0, 0])
        self.check((5, [4, 4]), (5, [0, 0]), [], [0, 1, 0, 1])
        self.check((5, []), (5, []), [], [0, 1, 0, 1])

    def test_a_place_that_the_list_does_not_tell_gets_0(self):
        self.check(helper.path(2), (2, [1, 0]), [1], [0, 1, 0, 1])
        self.check((2, [1, 0]), (2, [0, 1]), [1], [0, 1, 0, 1])
        self.check(helper.path(2), (2, [1, 1]), [1], [0, 1, 0, 0])
        self.check((3, [2, 2]), (2, [0, 0]), [1, 1], [0, 0, 0, 1])
        self.check((3, [2, 2]), (2, [1, 1]), [1, 1], [0, 0, 0, 0])
        self.check((3, [1, 2]), (3, [2, 0]), [1, 2], [0, 1, 0, 1])
        self.check((5, [0, 1, 1, 2, 3, 4]), (3, [0, 0, 1, 2, 2, 0]), [1, 2], [0, 1, 0, 1])

    def test_what_the_list_does_not_tell_is_neither_given_nor_given_twice(self):
        self.check((2, []), (2, []), [0], [0, 1, 0, 1])
        self.check((2, []), (2, []), [1], [0, 1, 0, 1])
        self.check((3, []), (1, []), [0, 0], [0, 0, 1, 1])
        # All the arrows are kept, and it's still no map: it tells one place too few.
        self.check(helper.path(2), helper.LOOP, [0], [0, 1, 1, 1])
        self.check((2, [1, 1]), (2, [0, 0]), [1], [0, 1, 0, 1])

    def test_too_long(self):
        # What stands behind the places counts for no arrow, but stands in the list.
        self.check(helper.path(2), helper.path(2), [0, 1, 0], [0, 0, 1, 1])
        self.check(helper.path(2), helper.path(2), [0, 1, 5], [0, 1, 1, 1])
        self.check(helper.path(2), helper.path(3), [0, 1, 2], [0, 1, 1, 0])
        self.check(helper.DOT, (2, []), [0, 1], [0, 1, 1, 1])
        self.check(helper.DOT, (5, []), [7, 6, 5, 4, 3, 2, 1, 0], [0, 1, 1, 1])
        self.check((5, []), (5, []), [0, 1, 2, 3, 4, 0], [0, 0, 1, 1])
        self.check((5, []), (5, []), [0, 1, 2, 3, 3, 3, 3, 4], [0, 0, 1, 1])
        self.check((5, []), (5, []), [0, 0, 0, 0, 0, 0, 0, 0], [0, 0, 0, 1])
        self.check(helper.full(5), helper.LOOP, [0, 0, 0, 0, 0, 0, 0, 0], [0, 0, 1, 1])

    def test_numbers_that_are_no_place(self):
        self.check(helper.DOT, helper.DOT, [1], [0, 1, 0, 1])
        self.check((2, []), (2, []), [0, 2], [0, 1, 0, 1])
        self.check((2, []), (2, []), [2, 0], [0, 1, 0, 1])
        self.check((2, []), (2, []), [2, 2], [0, 0, 0, 1])
        self.check((3, []), (2, []), [0, 2, 1], [0, 1, 1, 1])
        # A place of the first that is none of the second.
        self.check((5, []), (4, []), [0, 1, 2, 3, 4], [0, 1, 1, 1])
        self.check(helper.path(3), helper.path(2), [0, 1, 2], [0, 1, 1, 1])
        # From 0 to 2 of two places isn't from 1 to 0.
        self.check(helper.path(2), (2, [1, 0]), [0, 2], [0, 1, 0, 0])
        self.check(helper.path(2), (3, [1, 0, 1, 1]), [0, 3], [0, 1, 0, 0])
        # Nor is one to 5, or to very many, the one to the greatest place.
        self.check(helper.LOOP, (5, [4, 4]), [5], [0, 1, 0, 0])
        self.check(helper.path(2), (5, [0, 4]), [0, 5], [0, 1, 0, 0])
        self.check(helper.path(2), (5, [0, 4]), [0, helper.GREATEST], [0, 1, 0, 0])

    def test_very_large_numbers(self):
        large = helper.GREATEST
        self.check(helper.DOT, helper.DOT, [large], [0, 1, 0, 1])
        self.check(helper.LOOP, helper.LOOP, [large], [0, 1, 0, 0])
        self.check(helper.full(2), helper.full(2), [large, large], [0, 0, 0, 0])
        self.check(helper.path(2), helper.path(2), [large, 1], [0, 1, 0, 0])
        self.check(helper.path(2), helper.path(2), [0, large], [0, 1, 0, 0])
        self.check((3, [0, 1]), helper.path(2), [0, 1, large], [0, 1, 1, 1])
        self.check((3, []), (2, []), [0, 1, large - 1, large], [0, 1, 1, 1])
        self.check((5, []), (5, []), [large - place for place in range(8)], [0, 1, 0, 1])
        self.check((5, []), (5, []), [large] * 8, [0, 0, 0, 1])

    def test_the_same_number_twice_wherever_it_stands(self):
        for one, other in itertools.combinations(range(8), 2):
            given = [10, 11, 12, 13, 14, 15, 16, 17]
            given[other] = given[one]
            self.check((5, []), (1, []), given, [0, 0, 0, 1])

    def test_a_place_that_stands_nowhere(self):
        for place in range(5):
            given = [0, 1, 2, 3, 4]
            given[place] = 6
            self.check((5, []), (5, []), given, [0, 1, 0, 1])
            self.check((5, []), (place + 1, []), given, [0, 1, 0, 1])


class Refusals(helper.RefusesWrongGraphs, unittest.TestCase):
    def answers(self, first_graph, second_graph):
        return [is_map_of(first_graph, second_graph, mapping) for mapping in helper.ANY_LISTS]

    def test_no_list_is_refused(self):
        for mapping in helper.ANY_LISTS:
            for first_graph, second_graph in itertools.product((helper.DOT, helper.LOOP, helper.full(5)), repeat=2):
                self.assertEqual(len(is_map_of(first_graph, second_graph, mapping)), 4)


class Calls(unittest.TestCase):
    def test_what_is_handed_in_is_not_changed(self):
        graphs = [helper.LOOP, helper.full(5), helper.path(3)] + helper.WRONG_GRAPHS
        for (n, first), (m, second) in itertools.product(graphs, repeat=2):
            for mapping in helper.ANY_LISTS:
                kept = [helper.Untouched(numbers) for numbers in (first, second, mapping)]
                is_map(n, m, kept[0], kept[1], kept[2])
                self.assertEqual(kept, [first, second, mapping])

    def test_one_list_may_be_handed_in_three_times(self):
        numbers = [0, 1]
        self.assertEqual(is_map(2, 2, numbers, numbers, numbers), [1, 1, 1, 1])
        self.assertEqual(numbers, [0, 1])

    def test_a_second_call_answers_as_the_first(self):
        for first_graph, second_graph, mapping in [
            (helper.ring(3), helper.complete(4), [0, 1, 2]),
            (helper.ring(3), helper.complete(4), [0, 0, 9, 1]),
            (helper.path(2), helper.LOOP, []),
            ((6, []), helper.LOOP, [0]),
        ]:
            answer = is_map_of(first_graph, second_graph, mapping)
            kept = list(answer)
            is_map_of(helper.full(4), helper.full(4), [3, 2, 1, 0])
            # What was given back is the caller's own.
            answer.append(7)
            answer[0] = 9
            self.assertEqual(is_map_of(first_graph, second_graph, mapping), kept)

    def test_the_answer_is_a_list_of_whole_numbers(self):
        for first_graph, second_graph, mapping, length in [
            (helper.LOOP, helper.LOOP, [0], 4),
            (helper.full(2), helper.full(2), [5, 5], 4),
            (helper.DOT, helper.LOOP, [], 4),
            (helper.DOT, (0, []), [0], 1),
        ]:
            answer = is_map_of(first_graph, second_graph, mapping)
            self.assertIs(type(answer), list)
            # 1 and 0, never True and False.
            self.assertEqual([type(number) for number in answer], [int] * length)


if __name__ == "__main__":
    unittest.main()
