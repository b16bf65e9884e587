import copy
import unittest

from choicenet.net import Net, end_of, ordered_graph, statement_graph
from choicenet.statements import is_true, with_switch
from tests.helper import (EXAMPLE, NO, SIXTY_FIGURES, YES, drawn_statements, every_statement, nested, odd,
                          plain_graph, settings_of, size, truth_set)

EXAMPLE_GRAPH = ([(4, 0, 1), (7, 0, 1), (4, 3, 1), (2, 2, 4)], 5)
SMALL = every_statement(4, [0, 3, 4])


def order_from_root(nodes, root):
    """The places of the nodes, by the words of point 6."""
    found = []

    def walk(place):
        if place > 1 and place not in found:
            walk(nodes[place - 2][1])
            walk(nodes[place - 2][2])
            found.append(place)

    walk(root)
    return found


class GraphCase(unittest.TestCase):
    def assert_kinds(self, graph):
        self.assertIs(type(graph), tuple)
        self.assertEqual(len(graph), 2)
        self.assertIs(type(graph[0]), list)
        self.assertIs(type(graph[1]), int)
        for node in graph[0]:
            self.assertIs(type(node), tuple)
            self.assertEqual([type(number) for number in node], [int, int, int])

    def assert_point_6(self, graph):
        nodes, root = graph
        self.assertEqual(len(set(nodes)), len(nodes), "a node is there twice")
        for own, (switch, off, on) in enumerate(nodes, start=2):
            self.assertNotEqual(off, on, "a node leads to the same with off and with on")
            self.assertGreaterEqual(switch, 0)
            for place in (off, on):
                self.assertTrue(0 <= place < own, "a node leads to one not ahead of it")
                self.assertTrue(place < 2 or nodes[place - 2][0] > switch, "a lesser switch behind a greater one")
        self.assertEqual(order_from_root(nodes, root), list(range(2, len(nodes) + 2)), "the order, or a lost node")
        self.assertTrue(root == len(nodes) + 1 if nodes else root in (0, 1), "the root is not the last")


class Examples(GraphCase):
    def test_the_two_of_point_7(self):
        self.assertEqual(statement_graph(EXAMPLE), EXAMPLE_GRAPH)
        self.assertEqual(statement_graph(("or", ("switch", 4), ("not", ("switch", 4)))), ([], 1))

    def test_ends(self):
        self.assertEqual(statement_graph(YES), ([], 1))
        self.assertEqual(statement_graph(NO), ([], 0))
        self.assertEqual(statement_graph(("and", ("switch", 4), ("not", ("switch", 4)))), ([], 0))

    def test_one_node(self):
        self.assertEqual(statement_graph(("switch", 0)), ([(0, 0, 1)], 2))
        self.assertEqual(statement_graph(("not", ("switch", 5))), ([(5, 1, 0)], 2))

    def test_two_switches(self):
        one, two = ("switch", 1), ("switch", 2)
        for first, second in ((one, two), (two, one)):
            self.assertEqual(statement_graph(("and", first, second)), ([(2, 0, 1), (1, 0, 2)], 3))
            self.assertEqual(statement_graph(("or", first, second)), ([(2, 0, 1), (1, 2, 1)], 3))

    def test_all_and_some(self):
        either = ("or", ("switch", 1), ("switch", 2))
        both = ("and", ("switch", 1), ("switch", 2))
        for switch, other in ((1, 2), (2, 1)):
            self.assertEqual(statement_graph(("all", switch, either)), ([(other, 0, 1)], 2))
            self.assertEqual(statement_graph(("some", switch, both)), ([(other, 0, 1)], 2))
            self.assertEqual(statement_graph(("all", switch, both)), ([], 0))
            self.assertEqual(statement_graph(("some", switch, either)), ([], 1))
        self.assertEqual(statement_graph(("all", 3, both)), statement_graph(both))
        self.assertEqual(statement_graph(("some", 0, both)), statement_graph(both))

    def test_off_stands_ahead_of_on(self):
        two_ways = ("or", ("and", ("not", ("switch", 1)), ("not", ("switch", 2))),
                    ("and", ("switch", 1), ("switch", 2)))
        self.assertEqual(statement_graph(two_ways), ([(2, 1, 0), (2, 0, 1), (1, 2, 3)], 4))

    def test_a_node_that_off_and_on_both_lead_to_stands_with_off(self):
        self.assertEqual(statement_graph(odd([1, 2, 3])),
                         ([(3, 0, 1), (3, 1, 0), (2, 2, 3), (2, 3, 2), (1, 4, 5)], 6))

    def test_kinds(self):
        for statement in (YES, NO, EXAMPLE, ("not", EXAMPLE), ("all", 4, EXAMPLE), ("some", 2, EXAMPLE)):
            self.assert_kinds(statement_graph(statement))


class GraphsOfManyStatements(GraphCase):
    def test_demands_of_point_6(self):
        for statement in SMALL:
            self.assert_point_6(statement_graph(statement))
        for statement in drawn_statements(4, 60, 60, list(range(6))):
            self.assert_point_6(statement_graph(statement))

    def test_the_one_graph_of_each_statement(self):
        for statement in SMALL:
            self.assertEqual(statement_graph(statement), plain_graph(truth_set(statement, [0, 3, 4]), [0, 3, 4]))
        for statement in drawn_statements(5, 60, 40, list(range(5))):
            self.assertEqual(statement_graph(statement), plain_graph(truth_set(statement, range(5)), range(5)))

    def test_the_same_graph_just_where_they_mean_the_same(self):
        meanings = {}
        for statement in SMALL:
            told = meanings.setdefault(truth_set(statement, [0, 3, 4]), set())
            told.add(repr(statement_graph(statement)))
        self.assertGreater(len(meanings), 20)
        self.assertTrue(all(len(told) == 1 for told in meanings.values()))
        self.assertEqual(len(set.union(*meanings.values())), len(meanings))

    def test_settings_are_led_to_what_the_statement_says(self):
        for statement in SMALL[::7] + drawn_statements(6, 20, 40, [0, 3, 4]):
            graph = statement_graph(statement)
            for setting in settings_of([0, 3, 4]):
                self.assertEqual(end_of(graph, setting), 1 if is_true(statement, setting) else 0)

    def test_graphs_of_statements_with_a_switch_set(self):
        self.assertEqual(statement_graph(with_switch(EXAMPLE, 2, False)), ([(4, 0, 1)], 2))
        self.assertEqual(statement_graph(with_switch(EXAMPLE, 2, True)), ([(7, 0, 1), (4, 2, 1)], 3))
        self.assertEqual(statement_graph(with_switch(EXAMPLE, 4, True)), ([], 1))
        self.assertEqual(statement_graph(with_switch(EXAMPLE, 5, True)), EXAMPLE_GRAPH)


class Leading(unittest.TestCase):
    def test_the_example_at_each_setting(self):
        for setting in settings_of([2, 4, 7]):
            yes = 4 in setting or (2 in setting and 7 in setting)
            self.assertEqual(end_of(EXAMPLE_GRAPH, setting), 1 if yes else 0)

    def test_other_switches_make_no_difference(self):
        self.assertEqual(end_of(EXAMPLE_GRAPH, [0, 1, 2, 3, 5, 6, 8]), 0)
        self.assertEqual(end_of(EXAMPLE_GRAPH, [0, 1, 2, 3, 5, 6, 7, 8]), 1)

    def test_an_end_as_the_root(self):
        self.assertEqual(end_of(([], 0), [1]), 0)
        self.assertEqual(end_of(([], 1), []), 1)


class SharedNodes(unittest.TestCase):
    def test_a_node_is_made_once(self):
        net = Net()
        place = net.node_place(4, 0, 1)
        self.assertEqual(place, 2)
        self.assertEqual(net.node_place(4, 1, 0), 3)
        self.assertEqual(net.node_place(5, 0, 1), 4)
        self.assertEqual(net.node_place(4, 0, 1), place)
        self.assertEqual(net.nodes, [(4, 0, 1), (4, 1, 0), (5, 0, 1)])

    def test_no_node_that_leads_to_the_same(self):
        net = Net()
        self.assertEqual(net.node_place(4, 0, 0), 0)
        self.assertEqual(net.node_place(4, 1, 1), 1)
        place = net.node_place(4, 0, 1)
        self.assertEqual(net.node_place(3, place, place), place)
        self.assertEqual(net.nodes, [(4, 0, 1)])

    def test_statements_that_mean_the_same_share_a_place(self):
        net = Net()
        place = net.statement_place(EXAMPLE)
        turned = ("not", ("and", ("not", ("switch", 4)), ("not", ("and", ("switch", 7), ("switch", 2)))))
        self.assertEqual(net.statement_place(turned), place)
        self.assertNotEqual(net.statement_place(("not", EXAMPLE)), place)
        self.assertEqual(len(set(net.nodes)), len(net.nodes))

    def test_one_net_for_many_statements(self):
        net = Net()
        for statement in SMALL[::5]:
            root = net.statement_place(statement)
            self.assertEqual(ordered_graph(net.nodes, root), statement_graph(statement))

    def test_nets_keep_apart(self):
        Net().node_place(4, 0, 1)
        self.assertEqual(Net().nodes, [])

    def test_ordering_leaves_out_what_is_not_come_to(self):
        nodes = [(9, 0, 1), (5, 1, 0), (7, 0, 1), (3, 4, 3)]
        self.assertEqual(ordered_graph(nodes, 5), ([(7, 0, 1), (5, 1, 0), (3, 2, 3)], 4))
        self.assertEqual(ordered_graph(nodes, 1), ([], 1))
        self.assertEqual(nodes, [(9, 0, 1), (5, 1, 0), (7, 0, 1), (3, 4, 3)])


class Bounds(GraphCase):
    def test_two_hundred_and_sixty_one_within_the_other(self):
        for depth in (259, 258, 3000):
            deep = nested([lambda inner: ("not", inner)], depth, ("switch", 1))
            self.assertEqual(statement_graph(deep), ([(1, 0, 1) if depth % 2 == 0 else (1, 1, 0)], 2))

    def test_looks_one_within_the_other(self):
        looks = [lambda inner, switch=switch: ("all" if switch % 2 else "some", switch, inner) for switch in range(7)]
        deep = nested(looks, 259, odd(list(range(6, 8))))
        self.assertEqual(statement_graph(deep), ([], 1))
        self.assertEqual(statement_graph(nested(looks, 259, ("switch", 7))), ([(7, 0, 1)], 2))

    def test_eight_switches(self):
        statement = odd(list(range(8)))
        graph = statement_graph(statement)
        self.assertEqual(len(graph[0]), 15)
        self.assertEqual(graph, plain_graph(truth_set(statement, range(8)), range(8)))

    def test_drawn_statements_of_two_hundred_and_sixty(self):
        for statement in drawn_statements(7, 10, 260, list(range(8))):
            self.assertEqual(size(statement), 260)
            graph = statement_graph(statement)
            self.assert_point_6(graph)
            self.assert_kinds(graph)
            self.assertEqual(graph, plain_graph(truth_set(statement, range(8)), range(8)))

    def test_somewhat_more_switches(self):
        pairs = NO
        for switch in range(7):
            pairs = ("or", pairs, ("and", ("switch", switch), ("switch", switch + 7)))
        graph = statement_graph(pairs)
        self.assert_point_6(graph)
        self.assertEqual(end_of(graph, [3, 10]), 1)
        self.assertEqual(end_of(graph, [3, 9, 11]), 0)
        self.assertEqual(statement_graph(odd(list(range(16))))[1], 32)

    def test_switches_of_sixty_figures(self):
        great, lesser = SIXTY_FIGURES, SIXTY_FIGURES - 1
        statement = ("and", ("switch", great), ("not", ("switch", lesser)))
        self.assertEqual(statement_graph(statement), ([(great, 0, 1), (lesser, 2, 0)], 3))
        self.assertEqual(end_of(statement_graph(statement), [great]), 1)
        self.assertEqual(end_of(statement_graph(statement), [lesser, great]), 0)
        self.assertEqual(statement_graph(("some", great, statement)), ([(lesser, 1, 0)], 2))

    def test_what_is_handed_in_stays_as_it_was(self):
        statement = ("all", 1, ("or", EXAMPLE, ("some", 2, ("not", ("switch", 1)))))
        before = copy.deepcopy(statement)
        statement_graph(statement)
        self.assertEqual(statement, before)
        graph = copy.deepcopy(EXAMPLE_GRAPH)
        setting = [2, 7]
        end_of(graph, setting)
        self.assertEqual((graph, setting), (EXAMPLE_GRAPH, [2, 7]))

    def test_a_graph_that_is_changed_changes_no_other(self):
        first = statement_graph(EXAMPLE)
        first[0].clear()
        self.assertEqual(statement_graph(EXAMPLE), EXAMPLE_GRAPH)


if __name__ == "__main__":
    unittest.main()
