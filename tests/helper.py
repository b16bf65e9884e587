"""What the tests share: the document's words once more, in the plainest form, to hold the program against."""

import itertools
import random

YES = ("yes",)
NO = ("no",)
EXAMPLE = ("or", ("switch", 4), ("and", ("switch", 2), ("switch", 7)))
SIXTY_FIGURES = int("9" * 60)


def settings_of(switches):
    """Every setting of some switches, as sorted lists."""
    rising = sorted(switches)
    found = []
    for many in range(len(rising) + 1):
        found.extend([list(chosen) for chosen in itertools.combinations(rising, many)])
    return found


def truth_set(statement, switches):
    """The settings of `switches` that make a statement true, by the words of point 2."""
    every = frozenset(frozenset(setting) for setting in settings_of(switches))

    def told(part):
        word = part[0]
        if word == "yes":
            return every
        if word == "no":
            return frozenset()
        if word == "switch":
            return frozenset(setting for setting in every if part[1] in setting)
        if word == "not":
            return every - told(part[1])
        if word == "and":
            return told(part[1]) & told(part[2])
        if word == "or":
            return told(part[1]) | told(part[2])
        inner = told(part[2])
        only = frozenset([part[1]])
        if word == "all":
            return frozenset(one for one in every if one - only in inner and one | only in inner)
        if word == "some":
            return frozenset(one for one in every if one - only in inner or one | only in inner)
        raise AssertionError(word)

    return told(statement)


def plain_graph(true_settings, switches):
    """The graph of point 7, from a whole tree of choices in which what is equal is laid together."""

    def tree(rest, on):
        if not rest:
            return 1 if frozenset(on) in true_settings else 0
        off_tree = tree(rest[1:], on)
        on_tree = tree(rest[1:], on + [rest[0]])
        return off_tree if off_tree == on_tree else (rest[0], off_tree, on_tree)

    places = {0: 0, 1: 1}
    nodes = []

    def place(branch):
        if branch not in places:
            node = (branch[0], place(branch[1]), place(branch[2]))
            nodes.append(node)
            places[branch] = len(nodes) + 1
        return places[branch]

    root = place(tree(sorted(switches), []))
    return (nodes, root)


def named(statement):
    """The switches that a statement names."""
    found = set()
    waiting = [statement]
    while waiting:
        part = waiting.pop()
        if part[0] in ("switch", "all", "some"):
            found.add(part[1])
        waiting.extend(inner for inner in part[1:] if isinstance(inner, tuple))
    return found


def size(statement):
    """How many statements are in a statement, itself among them."""
    many = 0
    waiting = [statement]
    while waiting:
        part = waiting.pop()
        many += 1
        waiting.extend(inner for inner in part[1:] if isinstance(inner, tuple))
    return many


def every_statement(most, switches):
    """Every statement over some switches with at most `most` statements in it."""
    by_size = {1: [YES, NO] + [("switch", switch) for switch in switches]}
    for many in range(2, most + 1):
        found = []
        for one in by_size[many - 1]:
            found.append(("not", one))
            for switch in switches:
                found.append(("all", switch, one))
                found.append(("some", switch, one))
        for left in range(1, many - 1):
            for one, other in itertools.product(by_size[left], by_size[many - 1 - left]):
                found.append(("and", one, other))
                found.append(("or", one, other))
        by_size[many] = found
    return [statement for many in sorted(by_size) for statement in by_size[many]]


def drawn_statement(source, many, switches):
    """A statement of just `many` statements, drawn from a seeded source."""
    if many == 1:
        return source.choice([YES, NO] + [("switch", switch) for switch in switches] * 4)
    if many == 2 or source.random() < 0.3:
        inner = drawn_statement(source, many - 1, switches)
        word = source.choice(["not", "not", "all", "some"])
        return ("not", inner) if word == "not" else (word, source.choice(switches), inner)
    left = source.randint(1, many - 2)
    one = drawn_statement(source, left, switches)
    other = drawn_statement(source, many - 1 - left, switches)
    return (source.choice(["and", "or"]), one, other)


def drawn_statements(seed, times, many, switches):
    source = random.Random(seed)
    return [drawn_statement(source, many, switches) for _ in range(times)]


def unlike(one, other):
    """True where just one of two statements is."""
    return ("and", ("or", one, other), ("not", ("and", one, other)))


def odd(switches):
    """True where an odd number of these switches is on."""
    if len(switches) == 1:
        return ("switch", switches[0])
    half = len(switches) // 2
    return unlike(odd(switches[:half]), odd(switches[half:]))


def nested(wraps, times, innermost):
    """`times` statements round another one, each made by the next of the wraps in turn."""
    statement = innermost
    for step in range(times):
        statement = wraps[step % len(wraps)](statement)
    return statement
