"""Calls as the tests write them: ("sub", K(1), E(2)) and the like."""

from whatmustbe.desk import answers

NAMES = ("kind", "edge", "drop", "sub", "role", "never", "neverrole", "strike", "is_so", "who")
TOP = 4294967295


def K(k):
    """Being of kind k."""
    return (0, k)


def E(r):
    """Having an edge in direction r."""
    return (1, r)


NO_BASIC_ONES = (
    K(0), K(7), K(TOP), E(0), E(1), E(10), E(TOP), (2, 2), (2, 1), (TOP, 2), (TOP, 1), (TOP, TOP),
)


def flat(calls):
    numbers = []
    for call in calls:
        numbers.append(NAMES.index(call[0]))
        for part in call[1:]:
            numbers.extend(part if isinstance(part, tuple) else (part,))
    return numbers


def parted(given):
    rows = []
    at = 0
    while at < len(given):
        rows.append(given[at + 1:at + 1 + given[at]])
        assert len(rows[-1]) == given[at]
        at += 1 + given[at]
    return rows


def ask(*calls):
    """What is answered to each of the calls."""
    rows = parted(answers(flat(calls)))
    assert len(rows) == len(calls)
    return rows


def last(*calls):
    """What is answered to the last of the calls."""
    return ask(*calls)[-1]


def fourteen():
    """Fourteen different things told."""
    return [("kind", x, k) for x in (1, 2) for k in range(1, 7)] + [("edge", 1, 1, 2), ("edge", 8, 4, 8)]


def twelve():
    """Twelve rules of all four words."""
    return [("sub", K(1), K(2)), ("role", 2, 4), ("never", K(5), K(6)), ("neverrole", 6, 8)] * 3
