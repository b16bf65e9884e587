"""Graphs of choices (points 4 and 5), and the net of shared nodes from which the graph of a statement comes (6 and 7).

A graph is a pair of a list of nodes (switch, off, on) and a root. A place, the root's or one where a node leads,
is 0 for the end no, 1 for the end yes, 2 for the first node of the list, 3 for the second, and so on.
"""

from choicenet.statements import folded


# Holds nodes for as many statements as come. No node is made twice and none that leads to the same both ways,
# so statements that mean the same have the same place in a net.
class Net:

    def __init__(self):
        self.nodes = []
        self.places = {}
        self.choices = {}
        self.settled = {}

    def node_place(self, switch, off, on):
        if off == on:
            return off
        node = (switch, off, on)
        if node not in self.places:
            self.nodes.append(node)
            self.places[node] = len(self.nodes) + 1
        return self.places[node]

    def first_switch(self, places):
        return min([self.nodes[place - 2][0] for place in places if place > 1])

    # Where a place leads when nothing but this one switch has been looked at.
    def step(self, place, switch, on):
        if place < 2 or self.nodes[place - 2][0] != switch:
            return place
        node = self.nodes[place - 2]
        return node[2] if on else node[1]

    # The place that says what `yes` says where `test` says yes, and what `no` says elsewhere.
    # It calls itself once for each switch on a way, not for each statement: that is never deep.
    def choice(self, test, yes, no):
        if test < 2:
            return yes if test == 1 else no
        if yes == no:
            return yes
        key = (test, yes, no)
        if key not in self.choices:
            switch = self.first_switch(key)
            off_way = [self.step(place, switch, False) for place in key]
            on_way = [self.step(place, switch, True) for place in key]
            off = self.choice(off_way[0], off_way[1], off_way[2])
            on = self.choice(on_way[0], on_way[1], on_way[2])
            self.choices[key] = self.node_place(switch, off, on)
        return self.choices[key]

    # The place that says what `place` says where the switch stands so.
    def settled_place(self, place, switch, on):
        if place < 2 or self.nodes[place - 2][0] > switch:
            return place
        if self.nodes[place - 2][0] == switch:
            return self.step(place, switch, on)
        key = (place, switch, on)
        if key not in self.settled:
            node = self.nodes[place - 2]
            way_off = self.settled_place(node[1], switch, on)
            way_on = self.settled_place(node[2], switch, on)
            self.settled[key] = self.node_place(node[0], way_off, way_on)
        return self.settled[key]

    def part_place(self, part, inner):
        word = part[0]
        if word == "yes" or word == "no":
            return 1 if word == "yes" else 0
        if word == "switch":
            return self.node_place(part[1], 0, 1)
        if word == "not":
            return self.choice(inner[0], 0, 1)
        if word == "and":
            return self.choice(inner[0], inner[1], 0)
        if word == "or":
            return self.choice(inner[0], 1, inner[1])
        with_off = self.settled_place(inner[0], part[1], False)
        with_on = self.settled_place(inner[0], part[1], True)
        if word == "all":
            return self.choice(with_off, with_on, 0)
        return self.choice(with_off, 1, with_on)

    def statement_place(self, statement):

        def tell(part, inner):
            return self.part_place(part, inner)

        return folded(statement, tell)


# Gives the graph of just the nodes that are come to from the root, in the order of point 6.
def ordered_graph(nodes, root):
    new_places = {0: 0, 1: 1}
    ordered = []
    waiting = [root]
    while len(waiting) > 0:
        place = waiting[-1]
        if place in new_places:
            waiting.pop()
            continue
        node = nodes[place - 2]
        if node[1] not in new_places:
            waiting.append(node[1])
        elif node[2] not in new_places:
            waiting.append(node[2])
        else:
            ordered.append((node[0], new_places[node[1]], new_places[node[2]]))
            new_places[place] = len(ordered) + 1
    return (ordered, new_places[root])


def statement_graph(statement):
    net = Net()
    root = net.statement_place(statement)
    return ordered_graph(net.nodes, root)


def end_of(graph, setting):
    nodes = graph[0]
    place = graph[1]
    while place > 1:
        node = nodes[place - 2]
        place = node[2] if node[0] in setting else node[1]
    return place
