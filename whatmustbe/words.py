"""The numbers that stand for nodes, kinds, labels, directions and basic ones.

A basic one is a pair: OF_KIND and a kind, or WITH_EDGE and a direction.
A thing told is (KIND, x, k) or (EDGE, x, a, y). A rule is its word and the two that it names.
"""

LAST_NODE = 8
LAST_KIND = 6
LAST_LABEL = 4
FIRST_DIRECTION = 2
LAST_DIRECTION = 9

OF_KIND = 0
WITH_EDGE = 1

KIND = "kind"
EDGE = "edge"

SUB = "sub"
ROLE = "role"
NEVER = "never"
NEVERROLE = "neverrole"


def is_node(x):
    return 1 <= x <= LAST_NODE


def is_kind(k):
    return 1 <= k <= LAST_KIND


def is_label(a):
    return 1 <= a <= LAST_LABEL


def is_direction(r):
    return FIRST_DIRECTION <= r <= LAST_DIRECTION


def is_basic(b):
    if b[0] == OF_KIND:
        return is_kind(b[1])
    return b[0] == WITH_EDGE and is_direction(b[1])


def nodes():
    return list(range(1, LAST_NODE + 1))


def directions():
    return list(range(FIRST_DIRECTION, LAST_DIRECTION + 1))


def basics():
    """All basic ones: kinds first, rising, then directions, rising."""
    return [(OF_KIND, k) for k in range(1, LAST_KIND + 1)] + [(WITH_EDGE, r) for r in directions()]


def forward(a):
    return 2 * a


def backward(a):
    return 2 * a + 1


def label(r):
    return r // 2


def is_forward(r):
    return r % 2 == 0


def turned(r):
    """The other direction of the same label."""
    return r + 1 if is_forward(r) else r - 1
