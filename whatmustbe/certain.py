"""What is certain of the told nodes, and whether what's told can be."""

from whatmustbe.following import forbids, reached_from_all
from whatmustbe.words import EDGE, KIND, NEVER, NEVERROLE, OF_KIND, WITH_EDGE
from whatmustbe.words import backward, directions, forward, nodes, turned


def told_directions(told, x, y):
    """The directions in which edges from x to y are told."""
    found = []
    for thing in told:
        if thing[0] == EDGE:
            # Not one or the other: an edge from a node to itself goes both ways.
            if thing[1] == x and thing[3] == y:
                found.append(forward(thing[2]))
            if thing[1] == y and thing[3] == x:
                found.append(backward(thing[2]))
    return found


def directions_between(told, laws, x, y):
    """The directions in which edges from x to y follow from what's told."""
    return reached_from_all(laws.after_direction, told_directions(told, x, y))


def told_basics(told, x):
    """The basic ones that are told of x, without what follows of them."""
    found = []
    for thing in told:
        if thing[0] == KIND and thing[1] == x:
            found.append((OF_KIND, thing[2]))
        if thing[0] == EDGE and thing[1] == x:
            found.append((WITH_EDGE, forward(thing[2])))
        if thing[0] == EDGE and thing[3] == x:
            found.append((WITH_EDGE, backward(thing[2])))
    return found


def profile(told, laws, x):
    """All basic ones that follow of what's told of x."""
    return reached_from_all(laws.after_basic, told_basics(told, x))


def clash_between(told, laws, x, y):
    """Whether edges follow between x and y, seen from either, that a rule forbids together."""
    there = directions_between(told, laws, x, y)
    back = [turned(r) for r in there]
    return forbids(laws, NEVERROLE, there) or forbids(laws, NEVERROLE, back)


def is_wrong(told, laws, x):
    # An edge in a bad direction needs no look of its own: having one is bad and in the profile.
    has = profile(told, laws, x)
    if forbids(laws, NEVER, has) or any([b in laws.bad for b in has]):
        return True
    return any([clash_between(told, laws, x, y) for y in nodes()])


def wrong_nodes(told, laws):
    """The told nodes that are wrong, rising."""
    return [x for x in nodes() if is_wrong(told, laws, x)]


def can_be(told, laws):
    return len(wrong_nodes(told, laws)) == 0


def certain_nodes(told, laws, b):
    """The told nodes that certainly are b, rising."""
    if not can_be(told, laws):
        # No graph goes with what's told, so of every node everything is certain.
        return nodes()
    return [x for x in nodes() if b in profile(told, laws, x)]


def certain_directions(told, laws, x, y):
    """The directions in which there's certainly an edge from x to y, rising."""
    if not can_be(told, laws):
        return directions()
    return sorted(directions_between(told, laws, x, y))


def sources(told, laws, x, b):
    """The numbers, rising, of the things told of each of which alone it follows that x is b."""
    return [n for n, thing in enumerate(told) if b in profile([thing], laws, x)]
