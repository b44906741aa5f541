"""What follows by the rules, what they forbid, and which basic ones are bad."""

from whatmustbe.words import NEVER, NEVERROLE, ROLE, SUB, WITH_EDGE
from whatmustbe.words import basics, directions, turned


def reached(starts, steps):
    """The starts and all to which steps lead from them, each once. A step is a pair: from, to."""
    found = []
    waiting = list(starts)
    while len(waiting) > 0:
        one = waiting.pop()
        if one not in found:
            found.append(one)
            waiting.extend([after for before, after in steps if before == one])
    return found


def direction_steps(rules):
    """From each direction to those that follow of it at once."""
    steps = []
    for word, r, s in rules:
        if word == ROLE:
            steps.append((r, s))
            # The same edges, seen from their other end.
            steps.append((turned(r), turned(s)))
    return steps


def basic_steps(rules):
    """From each basic one to those that follow of it at once."""
    steps = [((WITH_EDGE, r), (WITH_EDGE, s)) for r, s in direction_steps(rules)]
    for word, b, c in rules:
        if word == SUB:
            steps.append((b, c))
    return steps


def forbids(rules, word, ones):
    """Whether a rule of this word names two of these, or one of these twice."""
    return any([rule[0] == word and rule[1] in ones and rule[2] in ones for rule in rules])


def clashes(rules, b):
    """Whether nobody can be b because of what follows of b itself."""
    if forbids(rules, NEVER, reached([b], basic_steps(rules))):
        return True
    return b[0] == WITH_EDGE and forbids(rules, NEVERROLE, reached([b[1]], direction_steps(rules)))


def bad_ones(rules):
    """The bad basic ones: kinds first, rising, then directions, rising.

    A direction is bad just if having an edge in it is, so the directions need no list of their own.
    """
    # An edge has two ends: if nobody can be at one of them, nobody can be at the other.
    far_ends = [((WITH_EDGE, r), (WITH_EDGE, turned(r))) for r in directions()]
    steps = basic_steps(rules) + far_ends
    clashing = [b for b in basics() if clashes(rules, b)]
    return [b for b in basics() if any([c in clashing for c in reached([b], steps)])]
