"""The graph of a statement (points 2 to 8), what a graph says of a setting (5), and whether one is as in point 6."""

from choicenet.net import end_of, ordered_graph, statement_graph
from choicenet.statements import with_switch


def graph_of(statement):
    return statement_graph(statement)


def set_graph(statement, switch, on):
    return statement_graph(with_switch(statement, switch, on))


def is_yes(graph, setting):
    return end_of(graph, setting) == 1


# Whether a node may lead there: to an end, or to a node ahead of its own place whose switch is greater.
def may_lead(nodes, own_place, place):
    if place < 0 or place >= own_place:
        return False
    return place < 2 or nodes[place - 2][0] > nodes[own_place - 2][0]


def is_node(nodes, own_place):
    node = nodes[own_place - 2]
    if node[0] < 0 or node[1] == node[2]:
        return False
    return may_lead(nodes, own_place, node[1]) and may_lead(nodes, own_place, node[2])


# The order is looked at last: it can be told only where each number leads to a node that is there, never in a ring.
def is_graph(graph):
    nodes = graph[0]
    root = graph[1]
    if root < 0 or root > len(nodes) + 1 or len(set(nodes)) != len(nodes):
        return False
    if not all([is_node(nodes, place) for place in range(2, len(nodes) + 2)]):
        return False
    return ordered_graph(nodes, root) == graph
