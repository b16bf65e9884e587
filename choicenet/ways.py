"""The ways of a statement among the settings of a number of switches (points 9 and 10), and where two differ (11).

In the order of point 9 the lowest switch weighs most, and off stands ahead of on. A net looks at the lowest switch
first too, so the ways are counted and found by walking down it.
"""

from choicenet.errors import NoWay
from choicenet.net import Net


# Point 9 speaks of the settings of the switches below `count`, so a place is looked at from its own switch up to there.
def level(net, place, count):
    if place < 2:
        return count
    return min(net.nodes[place - 2][0], count)


# A switch that is passed over may stand either way, so each one doubles the ways.
def ways_from(net, place, switch, count, ways):
    number = ways[place]
    for passed in range(switch, level(net, place, count)):
        number = number * 2
    return number


# For each place of the net: how many ways it has in the switches from its own one on. Nodes stand behind those that
# they lead to, so what they are counted from is there.
def all_ways(net, count):
    ways = [0, 1]
    for node in net.nodes:
        number = ways_from(net, node[1], node[0] + 1, count, ways)
        # A switch that is not looked at is off.
        if node[0] < count:
            number = number + ways_from(net, node[2], node[0] + 1, count, ways)
        ways.append(number)
    return ways


# The way at a number, counted from nought; None where there is none.
def found_way(net, place, count, number):
    ways = all_ways(net, count)
    if number < 0 or number >= ways_from(net, place, 0, count, ways):
        return None
    setting = []
    for switch in range(count):
        with_off = net.step(place, switch, False)
        off_ways = ways_from(net, with_off, switch + 1, count, ways)
        if number < off_ways:
            place = with_off
        else:
            number = number - off_ways
            setting.append(switch)
            place = net.step(place, switch, True)
    return setting


def how_many(statement, count):
    net = Net()
    place = net.statement_place(statement)
    return ways_from(net, place, 0, count, all_ways(net, count))


def way_at(statement, count, place):
    net = Net()
    setting = found_way(net, net.statement_place(statement), count, place)
    # The words leave the number out: it may be greater than Python writes in figures.
    if setting is None:
        raise NoWay("there is no way at this place")
    return setting


def first_unlike(one, other, count):
    net = Net()
    one_place = net.statement_place(one)
    other_place = net.statement_place(other)
    other_not = net.choice(other_place, 0, 1)
    return found_way(net, net.choice(one_place, other_not, other_place), count, 0)
