"""What is certain of the told nodes, and whether what's told can be."""

from whatmustbe.following import bad_ones, basic_steps, direction_steps, forbids, reached
from whatmustbe.words import EDGE, KIND, NEVER, NEVERROLE, OF_KIND, WITH_EDGE
from whatmustbe.words import backward, forward, nodes, turned


def told_directions(told, x, y):
    """The directions in which edges from x to y are told."""
    found = []
    for thing in told:
        if thing[0] == EDGE:
            # Not one or the other: an edge from a node to itself goes both ways.
            if thing[1] == x and thing[3] == y:
                found.append(forward(thing[2]))
            if thing[1] == y and thing[3] == x:
                found.append(backward(thing[2]))
    return found


def directions_between(told, rules, x, y):
    """The directions in which edges from x to y follow from what's told."""
    return reached(told_directions(told, x, y), direction_steps(rules))


def told_basics(told, x):
    """The basic ones that are told of x, without what follows of them."""
    found = [(OF_KIND, thing[2]) for thing in told if thing[0] == KIND and thing[1] == x]
    for y in nodes():
        found.extend([(WITH_EDGE, r) for r in told_directions(told, x, y)])
    return found


def profile(told, rules, x):
    """All basic ones that follow of what's told of x."""
    return reached(told_basics(told, x), basic_steps(rules))


def clash_between(told, rules, x, y):
    """Whether edges follow between x and y, seen from either, that a rule forbids together."""
    there = directions_between(told, rules, x, y)
    back = [turned(r) for r in there]
    return forbids(rules, NEVERROLE, there) or forbids(rules, NEVERROLE, back)


def is_wrong(told, rules, bad, x):
    # An edge in a bad direction needs no look of its own: having one is bad and in the profile.
    has = profile(told, rules, x)
    if forbids(rules, NEVER, has) or any([b in bad for b in has]):
        return True
    return any([clash_between(told, rules, x, y) for y in nodes()])


def wrong_nodes(told, rules):
    """The told nodes that are wrong, rising. What's told can be just if there are none."""
    bad = bad_ones(rules)
    return [x for x in nodes() if is_wrong(told, rules, bad, x)]


def certain_nodes(told, rules, b):
    """The told nodes that certainly are b, rising."""
    if len(wrong_nodes(told, rules)) > 0:
        # No graph goes with what's told, so of every node everything is certain.
        return nodes()
    return [x for x in nodes() if b in profile(told, rules, x)]
