import copy
import itertools
import unittest

from choicenet.graphs import graph_of, is_graph, is_yes, set_graph
from tests.helper import (EXAMPLE, NO, SIXTY_FIGURES, YES, drawn_statements, every_statement, nested, odd,
                          plain_graph, settings_of, size, truth_set)

EXAMPLE_GRAPH = ([(4, 0, 1), (7, 0, 1), (4, 3, 1), (2, 2, 4)], 5)
ONE = ("switch", 1)
TWO = ("switch", 2)
SMALL = every_statement(4, [0, 3, 4])


def every_graph(switches):
    """The graphs of all that can be said of some switches."""
    settings = [frozenset(setting) for setting in settings_of(switches)]
    chosen = itertools.product((False, True), repeat=len(settings))
    return [plain_graph(frozenset(itertools.compress(settings, choice)), switches) for choice in chosen]


class GraphOf(unittest.TestCase):
    def test_the_two_of_point_7(self):
        self.assertEqual(graph_of(EXAMPLE), EXAMPLE_GRAPH)
        self.assertEqual(graph_of(("or", ("switch", 4), ("not", ("switch", 4)))), ([], 1))

    def test_each_sort(self):
        self.assertEqual(graph_of(YES), ([], 1))
        self.assertEqual(graph_of(NO), ([], 0))
        self.assertEqual(graph_of(ONE), ([(1, 0, 1)], 2))
        self.assertEqual(graph_of(("not", ONE)), ([(1, 1, 0)], 2))
        self.assertEqual(graph_of(("and", TWO, ONE)), ([(2, 0, 1), (1, 0, 2)], 3))
        self.assertEqual(graph_of(("or", TWO, ONE)), ([(2, 0, 1), (1, 2, 1)], 3))
        self.assertEqual(graph_of(("all", 1, ("or", TWO, ONE))), ([(2, 0, 1)], 2))
        self.assertEqual(graph_of(("some", 2, ("and", TWO, ONE))), ([(1, 0, 1)], 2))

    def test_the_same_graph_just_where_they_mean_the_same(self):
        graphs = {}
        for statement in SMALL:
            graphs.setdefault(truth_set(statement, [0, 3, 4]), set()).add(repr(graph_of(statement)))
        self.assertTrue(all(len(told) == 1 for told in graphs.values()))
        self.assertEqual(len(set.union(*graphs.values())), len(graphs))
        self.assertGreater(len(graphs), 20)

    def test_the_one_graph_of_drawn_statements(self):
        for statement in drawn_statements(11, 12, 260, list(range(8))):
            self.assertEqual(graph_of(statement), plain_graph(truth_set(statement, range(8)), range(8)))

    def test_switches_of_sixty_figures(self):
        great, lesser = SIXTY_FIGURES, SIXTY_FIGURES - 1
        self.assertEqual(graph_of(("or", ("switch", great), ("switch", lesser))),
                         ([(great, 0, 1), (lesser, 2, 1)], 3))
        self.assertEqual(graph_of(("all", great, ("or", ("switch", great), ("switch", lesser)))),
                         ([(lesser, 0, 1)], 2))

    def test_two_hundred_and_sixty_one_within_the_other(self):
        deep = nested([lambda inner: ("not", inner)], 259, ONE)
        self.assertEqual(size(deep), 260)
        self.assertEqual(graph_of(deep), ([(1, 1, 0)], 2))
        wraps = [lambda inner: ("and", ("switch", 3), inner), lambda inner: ("some", 5, inner)]
        self.assertEqual(graph_of(nested(wraps, 173, ("switch", 7))), ([(7, 0, 1), (3, 0, 2)], 3))
        self.assertEqual(graph_of(nested([lambda inner: ("not", inner)], 2000, ONE)), ([(1, 0, 1)], 2))

    def test_what_is_handed_in_stays_as_it_was(self):
        statement = ("all", 1, ("or", EXAMPLE, ("some", 2, ("not", ONE))))
        before = copy.deepcopy(statement)
        graph_of(statement)
        set_graph(statement, 4, True)
        self.assertEqual(statement, before)

    def test_a_graph_that_is_changed_changes_no_other(self):
        graph_of(EXAMPLE)[0].clear()
        self.assertEqual(graph_of(EXAMPLE), EXAMPLE_GRAPH)


class SetGraph(unittest.TestCase):
    def test_each_switch_of_the_example(self):
        self.assertEqual(set_graph(EXAMPLE, 2, False), ([(4, 0, 1)], 2))
        self.assertEqual(set_graph(EXAMPLE, 2, True), ([(7, 0, 1), (4, 2, 1)], 3))
        self.assertEqual(set_graph(EXAMPLE, 4, False), ([(7, 0, 1), (2, 0, 2)], 3))
        self.assertEqual(set_graph(EXAMPLE, 4, True), ([], 1))
        self.assertEqual(set_graph(EXAMPLE, 7, False), ([(4, 0, 1)], 2))
        self.assertEqual(set_graph(EXAMPLE, 7, True), ([(4, 0, 1), (2, 2, 1)], 3))

    def test_a_switch_that_is_not_named(self):
        for switch in (0, 3, 5, 9, SIXTY_FIGURES):
            for on in (False, True):
                self.assertEqual(set_graph(EXAMPLE, switch, on), EXAMPLE_GRAPH)

    def test_a_switch_in_a_look_at_itself(self):
        for on in (False, True):
            self.assertEqual(set_graph(("some", 1, ONE), 1, on), ([], 1))
            self.assertEqual(set_graph(("all", 1, ONE), 1, on), ([], 0))
            self.assertEqual(set_graph(("some", 1, ("and", ONE, TWO)), 1, on), ([(2, 0, 1)], 2))
            self.assertEqual(set_graph(("all", 1, ("or", ONE, TWO)), 1, on), ([(2, 0, 1)], 2))

    def test_a_switch_within_and_beside_a_look_at_itself(self):
        statement = ("and", ONE, ("some", 1, ("and", ("not", ONE), TWO)))
        self.assertEqual(set_graph(statement, 1, True), ([(2, 0, 1)], 2))
        self.assertEqual(set_graph(statement, 1, False), ([], 0))

    def test_a_switch_of_sixty_figures(self):
        statement = ("and", ONE, ("switch", SIXTY_FIGURES))
        self.assertEqual(set_graph(statement, SIXTY_FIGURES, True), ([(1, 0, 1)], 2))
        self.assertEqual(set_graph(statement, SIXTY_FIGURES, False), ([], 0))

    def test_small_and_drawn_statements(self):
        for statement in SMALL[::3] + drawn_statements(12, 40, 40, [0, 3, 4]):
            true_settings = truth_set(statement, [0, 3, 4])
            every = [frozenset(setting) for setting in settings_of([0, 3, 4])]
            for switch in (0, 3, 4):
                only = frozenset([switch])
                with_off = frozenset(one for one in every if one - only in true_settings)
                with_on = frozenset(one for one in every if one | only in true_settings)
                self.assertEqual(set_graph(statement, switch, False), plain_graph(with_off, [0, 3, 4]))
                self.assertEqual(set_graph(statement, switch, True), plain_graph(with_on, [0, 3, 4]))

    def test_a_deep_statement(self):
        deep = nested([lambda inner: ("some", 2, inner), lambda inner: ("not", inner)], 258, ("and", ONE, TWO))
        self.assertEqual(set_graph(deep, 2, True), ([(1, 1, 0)], 2))
        self.assertEqual(set_graph(deep, 1, True), ([], 0))
        self.assertEqual(set_graph(deep, 1, False), ([], 1))


class IsYes(unittest.TestCase):
    def test_the_example_at_each_setting(self):
        for setting in settings_of([2, 4, 7]):
            self.assertIs(is_yes(EXAMPLE_GRAPH, setting), 4 in setting or (2 in setting and 7 in setting))

    def test_switches_that_are_in_no_node(self):
        self.assertIs(is_yes(EXAMPLE_GRAPH, [0, 1, 2, 3, 5, 6, 8, SIXTY_FIGURES]), False)
        self.assertIs(is_yes(EXAMPLE_GRAPH, [0, 1, 2, 3, 5, 6, 7, 8, SIXTY_FIGURES]), True)
        self.assertIs(is_yes(EXAMPLE_GRAPH, [0, 1, 3]), False)

    def test_an_end_as_the_root(self):
        for setting in ([], [0], [0, 5, SIXTY_FIGURES]):
            self.assertIs(is_yes(([], 0), setting), False)
            self.assertIs(is_yes(([], 1), setting), True)

    def test_a_switch_of_sixty_figures(self):
        graph = ([(SIXTY_FIGURES, 1, 0)], 2)
        self.assertIs(is_yes(graph, [SIXTY_FIGURES]), False)
        self.assertIs(is_yes(graph, [SIXTY_FIGURES - 1]), True)
        self.assertIs(is_yes(graph, []), True)

    def test_graphs_of_small_statements(self):
        for statement in SMALL[::7]:
            true_settings = truth_set(statement, [0, 3, 4])
            for setting in settings_of([0, 3, 4]):
                self.assertIs(is_yes(graph_of(statement), setting), frozenset(setting) in true_settings)

    def test_what_is_handed_in_stays_as_it_was(self):
        graph, setting = copy.deepcopy(EXAMPLE_GRAPH), [2, 7]
        is_yes(graph, setting)
        self.assertEqual((graph, setting), (EXAMPLE_GRAPH, [2, 7]))


class IsGraph(unittest.TestCase):
    def assert_is(self, graph, fine):
        before = copy.deepcopy(graph)
        with self.subTest(graph=graph):
            self.assertIs(is_graph(graph), fine)
            self.assertEqual(graph, before)

    def test_those_of_point_7(self):
        self.assert_is(EXAMPLE_GRAPH, True)
        self.assert_is(([], 1), True)
        self.assert_is(([], 0), True)

    def test_no_node_is_there_twice(self):
        self.assert_is(([(2, 0, 1), (2, 1, 0), (1, 2, 3)], 4), True)
        self.assert_is(([(2, 0, 1), (2, 0, 1), (1, 2, 3)], 4), False)
        self.assert_is(([(3, 0, 1), (2, 0, 2), (2, 0, 2), (1, 3, 4)], 5), False)

    def test_no_node_leads_to_the_same(self):
        self.assert_is(([(2, 0, 1), (1, 0, 2)], 3), True)
        self.assert_is(([(2, 0, 1), (1, 2, 2)], 3), False)
        self.assert_is(([(2, 0, 0)], 2), False)
        self.assert_is(([(2, 1, 1)], 2), False)

    def test_no_switch_is_below_nought(self):
        self.assert_is(([(0, 0, 1)], 2), True)
        self.assert_is(([(-1, 0, 1)], 2), False)
        self.assert_is(([(3, 0, 1), (-2, 2, 1)], 3), False)
        self.assert_is(([(-SIXTY_FIGURES, 0, 1)], 2), False)

    def test_nodes_lead_to_none_but_ends_and_nodes_ahead(self):
        self.assert_is(([(5, 0, 1), (4, 2, 0)], 3), True)
        for place in (2, 3, 4, 5, -1, -2, -3, -4, SIXTY_FIGURES, -SIXTY_FIGURES):
            self.assert_is(([(5, place, 1)], 2), False)
            self.assert_is(([(5, 0, place)], 2), False)
        for place in (3, 4, 5, -1, -2, -3, -4, SIXTY_FIGURES, -SIXTY_FIGURES):
            self.assert_is(([(5, 0, 1), (4, place, 2)], 3), False)
            self.assert_is(([(5, 0, 1), (4, 2, place)], 3), False)

    def test_nodes_that_stand_behind_those_that_lead_to_them(self):
        self.assert_is(([(4, 0, 3), (5, 0, 1)], 2), False)
        self.assert_is(([(4, 3, 0), (5, 0, 1)], 2), False)
        self.assert_is(([(4, 0, 3), (5, 0, 1)], 3), False)

    def test_nodes_in_a_ring(self):
        self.assert_is(([(5, 3, 1), (4, 2, 0)], 3), False)
        self.assert_is(([(5, 0, 3), (4, 0, 2)], 3), False)

    def test_switches_rise_on_each_way(self):
        for switch, fine in ((4, True), (5, False), (6, False), (SIXTY_FIGURES, False)):
            self.assert_is(([(5, 0, 1), (switch, 2, 0)], 3), fine)
            self.assert_is(([(5, 0, 1), (switch, 1, 2)], 3), fine)
        self.assert_is(([(9, 0, 1), (5, 0, 2), (7, 0, 3)], 4), False)

    def test_each_node_is_come_to(self):
        self.assert_is(([(6, 0, 1), (5, 1, 2), (4, 3, 2)], 4), True)
        self.assert_is(([(6, 0, 1), (5, 1, 2), (4, 2, 1)], 4), False)
        self.assert_is(([(6, 0, 1), (5, 1, 0)], 3), False)
        self.assert_is(([(6, 0, 1)], 0), False)
        self.assert_is(([(6, 0, 1)], 1), False)

    def test_off_stands_ahead_of_on(self):
        self.assert_is(([(6, 0, 1), (6, 1, 0), (5, 2, 3)], 4), True)
        self.assert_is(([(6, 0, 1), (6, 1, 0), (5, 3, 2)], 4), False)
        self.assert_is(([(6, 1, 0), (6, 0, 1), (5, 2, 3)], 4), True)
        self.assert_is(([(6, 1, 0), (6, 0, 1), (5, 3, 2)], 4), False)

    def test_all_that_off_leads_to_stands_ahead_of_on(self):
        self.assert_is(([(8, 0, 1), (7, 0, 2), (8, 1, 0), (5, 3, 4)], 5), True)
        self.assert_is(([(8, 0, 1), (8, 1, 0), (7, 0, 2), (5, 4, 3)], 5), False)
        self.assert_is(([(8, 1, 0), (8, 0, 1), (7, 0, 3), (5, 4, 2)], 5), False)

    def test_what_is_there_already_does_not_come_again(self):
        self.assert_is(graph_of(odd([1, 2, 3])), True)
        self.assert_is(([(3, 0, 1), (3, 1, 0), (2, 2, 3), (2, 3, 2), (1, 4, 5)], 6), True)
        self.assert_is(([(3, 1, 0), (3, 0, 1), (2, 3, 2), (2, 2, 3), (1, 4, 5)], 6), False)
        self.assert_is(([(3, 0, 1), (3, 1, 0), (2, 3, 2), (2, 2, 3), (1, 5, 4)], 6), False)

    def test_the_root(self):
        self.assert_is(([(2, 0, 1), (1, 0, 2)], 3), True)
        for root in (-2, -1, 0, 1, 2, 4, 5, SIXTY_FIGURES, -SIXTY_FIGURES):
            self.assert_is(([(2, 0, 1), (1, 0, 2)], root), False)
        for root in (-3, -2, -1, 2, 3, SIXTY_FIGURES, -SIXTY_FIGURES):
            self.assert_is(([], root), False)

    def test_switches_of_sixty_figures(self):
        great, lesser = SIXTY_FIGURES, SIXTY_FIGURES - 1
        self.assert_is(([(great, 0, 1), (lesser, 2, 1)], 3), True)
        self.assert_is(([(lesser, 0, 1), (great, 2, 1)], 3), False)
        self.assert_is(([(great, 0, 1), (great, 2, 1)], 3), False)

    def test_every_graph_of_at_most_two_nodes(self):
        fine = [graph for graph in every_graph([0, 1, 2]) if len(graph[0]) < 3]
        nodes = list(itertools.product(range(-1, 3), range(-1, 5), range(-1, 5)))
        found = []
        for many in range(3):
            for chosen in itertools.product(nodes, repeat=many):
                graphs = [(list(chosen), root) for root in range(-1, 5)]
                found.extend(graph for graph in graphs if is_graph(graph))
        self.assertEqual(sorted(map(repr, found)), sorted(map(repr, fine)))

    def test_graphs_with_one_number_changed_or_two_nodes_changed_over(self):
        graphs = every_graph([0, 1, 2])
        fine = set(map(repr, graphs))
        for graph in graphs:
            self.assert_is(graph, True)
            for other in self.changed(graph):
                self.assertIs(is_graph(other), repr(other) in fine, other)

    def changed(self, graph):
        nodes, root = graph
        for new_root in range(-2, len(nodes) + 4):
            yield (list(nodes), new_root)
        for spot, node in enumerate(nodes):
            for part, number in itertools.product(range(3), range(-2, len(nodes) + 4)):
                if part > 0 or number < 3:
                    new_node = node[:part] + (number,) + node[part + 1:]
                    yield (nodes[:spot] + [new_node] + nodes[spot + 1:], root)
            yield (nodes[:spot] + nodes[spot + 1:], root)
            yield (nodes[:spot] + [node] + nodes[spot:], root)
        for one, other in itertools.combinations(range(len(nodes)), 2):
            order = list(range(len(nodes)))
            order[one], order[other] = other, one
            yield self.renumbered(nodes, root, order)

    def renumbered(self, nodes, root, order):
        """The same graph with its nodes in another order."""
        places = [0, 1] + [order.index(spot) + 2 for spot in range(len(nodes))]
        moved = [(nodes[spot][0], places[nodes[spot][1]], places[nodes[spot][2]]) for spot in order]
        return (moved, places[root])

    def test_graphs_of_drawn_statements(self):
        for statement in drawn_statements(13, 10, 260, list(range(8))):
            graph = graph_of(statement)
            self.assert_is(graph, True)
            nodes, root = graph
            self.assert_is((nodes + [(0, 0, 1)], root), False)

    def test_a_long_graph(self):
        nodes = [(2999 - step, 0, step + 1) for step in range(3000)]
        self.assert_is((nodes, 3001), True)
        self.assert_is((nodes, 3000), False)


if __name__ == "__main__":
    unittest.main()
