"""What a statement is (points 1 and 2), where it is true (2 and 3), and what it says with a switch set (8).

A statement is a tuple: ("yes",), ("no",), ("switch", n), ("not", one), ("and", one, other), ("or", one, other),
("all", n, one) or ("some", n, one). A setting is a list of the numbers of the switches that are on.
"""


def is_look(statement):
    return statement[0] == "all" or statement[0] == "some"


def is_pair(statement):
    return statement[0] == "and" or statement[0] == "or"


def within(statement):
    if is_pair(statement):
        return [statement[1], statement[2]]
    if is_look(statement):
        return [statement[2]]
    if statement[0] == "not":
        return [statement[1]]
    return []


# Statements may lie hundreds deep in one another, so a list is walked and no function calls itself.
# Each statement stands behind those within it, so that what is said of them is there when it is needed.
def parts_of(statement):
    waiting = [statement]
    parts = []
    while len(waiting) > 0:
        part = waiting.pop()
        parts.append(part)
        waiting.extend(within(part))
    parts.reverse()
    return parts


# Gives what `tell(part, inner)` says of the whole statement, where `inner` lists what it said of those within the part.
def folded(statement, tell):
    values = []
    for part in parts_of(statement):
        inner = []
        for taken in within(part):
            inner.insert(0, values.pop())
        values.append(tell(part, inner))
    return values[0]


# Only switches that an `all` or a `some` looks at have to be tried both ways. A case tells how these stand by
# the sum of the weights of those that are on; the weights double, so the cases are all numbers up to their sum.
def look_weights(statement):
    weights = {}
    weight = 1
    for part in parts_of(statement):
        if is_look(part) and part[1] not in weights:
            weights[part[1]] = weight
            weight = weight * 2
    return weights


def is_on(switch, case, weights, setting):
    if switch in weights:
        return (case & weights[switch]) != 0
    return switch in setting


def truth_at(part, inner, case, weights, setting):
    word = part[0]
    if word == "yes" or word == "no":
        return word == "yes"
    if word == "switch":
        return is_on(part[1], case, weights, setting)
    if word == "not":
        return not inner[0][case]
    if word == "and":
        return inner[0][case] and inner[1][case]
    if word == "or":
        return inner[0][case] or inner[1][case]
    weight = weights[part[1]]
    with_on = inner[0][case | weight]
    with_off = inner[0][(case | weight) - weight]
    if word == "all":
        return with_off and with_on
    return with_off or with_on


# Each part is judged for all cases at once: trying both ways anew at each `all` and `some` would take twice as long
# with every one of them that lies within another.
def is_true(statement, setting):
    weights = look_weights(statement)
    cases = 1 + sum(weights.values())

    def tell(part, inner):
        return [truth_at(part, inner, case, weights, setting) for case in range(cases)]

    truths = folded(statement, tell)
    return truths[sum([weights[switch] for switch in weights if switch in setting])]


def set_part(part, inner, switch, on):
    word = part[0]
    if word == "switch" and part[1] == switch:
        return ("yes",) if on else ("no",)
    if word == "not":
        return ("not", inner[0])
    if is_pair(part):
        return (word, inner[0], inner[1])
    # An `all` or `some` of the switch itself looks at it both ways, so it stays as it is.
    if is_look(part) and part[1] != switch:
        return (word, part[1], inner[0])
    return part


def with_switch(statement, switch, on):

    def tell(part, inner):
        return set_part(part, inner, switch, on)

    return folded(statement, tell)
