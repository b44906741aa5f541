"""What holds in every graph that keeps the rules, whatever is told.

It does just if it is certain, or can't be otherwise, where no more is told than what it speaks of.
"""

from whatmustbe.certain import can_be, certain_directions, certain_nodes
from whatmustbe.words import EDGE, KIND, NEVER, OF_KIND, ROLE, SUB
from whatmustbe.words import is_forward, label


def thing_with_edge(r, x, y):
    """The thing told by which there's an edge from x to y in direction r."""
    return (EDGE, x, label(r), y) if is_forward(r) else (EDGE, y, label(r), x)


def thing_with_basic(b, x, y):
    """A thing told by which x is b, and nothing else but what follows. An edge, if b is one, leads to y."""
    return (KIND, x, b[1]) if b[0] == OF_KIND else thing_with_edge(b[1], x, y)


def always_sub(laws, b, c):
    """Whether whoever is b is c."""
    return 1 in certain_nodes([thing_with_basic(b, 1, 2)], laws, c)


def always_role(laws, r, s):
    """Whether wherever there's an edge in direction r there's one in direction s."""
    return s in certain_directions([thing_with_edge(r, 1, 2)], laws, 1, 2)


def always_never(laws, b, c):
    """Whether nobody is both b and c."""
    # Edges for b and for c lead to two nodes: nothing says that they are between the same ones.
    return not can_be([thing_with_basic(b, 1, 2), thing_with_basic(c, 1, 3)], laws)


def always_neverrole(laws, r, s):
    """Whether nowhere is there an edge in both directions r and s."""
    return not can_be([thing_with_edge(r, 1, 2), thing_with_edge(s, 1, 2)], laws)


def always_kept(laws, rule):
    """Whether every graph that keeps the laws keeps the rule."""
    if rule[0] == SUB:
        return always_sub(laws, rule[1], rule[2])
    if rule[0] == ROLE:
        return always_role(laws, rule[1], rule[2])
    if rule[0] == NEVER:
        return always_never(laws, rule[1], rule[2])
    return always_neverrole(laws, rule[1], rule[2])
