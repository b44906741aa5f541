"""What follows by the rules, what they forbid, and which basic ones are bad."""

from whatmustbe.words import NEVER, NEVERROLE, ROLE, SUB, WITH_EDGE
from whatmustbe.words import basics, directions, turned


class Laws:
    """The rules; what follows by them of each direction and of each basic one; and the bad basic ones."""

    def __init__(self, rules):
        self.rules = rules
        self.after_direction = reached_from_each(directions(), direction_steps(rules))
        self.after_basic = reached_from_each(basics(), basic_steps(rules))
        # Last, since it needs what follows.
        self.bad = bad_ones(self)


def reached(starts, steps):
    """The starts and all to which steps lead from them, each once. A step is a pair: from, to."""
    found = []
    waiting = list(starts)
    while len(waiting) > 0:
        one = waiting.pop()
        if one not in found:
            found.append(one)
            waiting.extend([after for before, after in steps if before == one])
    return found


def reached_from_each(starts, steps):
    """For each of the starts what is reached from it alone."""
    table = {}
    for start in starts:
        table[start] = reached([start], steps)
    return table


def reached_from_all(table, starts):
    """What is reached from any of the starts, each once, by a table of what is reached from each."""
    found = []
    for start in starts:
        found.extend([one for one in table[start] if one not in found])
    return found


def direction_steps(rules):
    """From each direction to those that follow of it at once."""
    steps = []
    for word, r, s in rules:
        if word == ROLE:
            steps.append((r, s))
            # The same edges, seen from their other end.
            steps.append((turned(r), turned(s)))
    return steps


def basic_steps(rules):
    """From each basic one to those that follow of it at once."""
    steps = [((WITH_EDGE, r), (WITH_EDGE, s)) for r, s in direction_steps(rules)]
    for word, b, c in rules:
        if word == SUB:
            steps.append((b, c))
    return steps


def forbids(laws, word, ones):
    """Whether a rule of this word names two of these, or one of these twice."""
    return any([rule[0] == word and rule[1] in ones and rule[2] in ones for rule in laws.rules])


def clashes(laws, b):
    """Whether nobody can be b because of what follows of b itself."""
    if forbids(laws, NEVER, laws.after_basic[b]):
        return True
    return b[0] == WITH_EDGE and forbids(laws, NEVERROLE, laws.after_direction[b[1]])


def bad_ones(laws):
    """The bad basic ones: kinds first, rising, then directions, rising.

    A direction is bad just if having an edge in it is, so the directions need no list of their own.
    """
    # An edge has two ends: if nobody can be at one of them, nobody can be at the other.
    far_ends = [((WITH_EDGE, r), (WITH_EDGE, turned(r))) for r in directions()]
    steps = basic_steps(laws.rules) + far_ends
    clashing = [b for b in basics() if clashes(laws, b)]
    found = reached(clashing, [(after, before) for before, after in steps])
    return [b for b in basics() if b in found]
