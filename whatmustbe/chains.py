"""From which told nodes a row of steps certainly leads, also over nodes that nobody has told.

Each node, told or not, has a node of its own for each direction of having an edge in its profile. Whatever one
meets from there on, but for the way back, hangs on this direction alone. So it's found out once for each
direction after how many steps one may be back from there, and whether all steps may end out there.
"""

from whatmustbe.certain import can_be, directions_between, profile
from whatmustbe.following import reached
from whatmustbe.words import OF_KIND, WITH_EDGE
from whatmustbe.words import directions, nodes, turned


class Walk:
    """A row of steps, each a direction and a kind, and what becomes of it at own nodes.

    Of a direction and of how many steps are done when one comes to the own node for it, backs tells after how
    many one may be back at the node whose own it is, whatever kind that must be of then; and ends tells whether
    all steps may be done without coming back.
    """

    def __init__(self, laws, steps):
        self.laws = laws
        self.steps = steps
        self.backs = {}
        self.ends = {}
        # The later first: what becomes of the steps out there hangs on those that are left.
        for done in range(len(steps), 0, -1):
            for r in directions():
                look_out(self, r, done)


def own_profile(laws, r):
    """The profile of a node's own node for direction r."""
    return laws.after_basic[(WITH_EDGE, turned(r))]


def fits(has, k):
    """Whether a node with the profile is of kind k, where 0 is any."""
    return k == 0 or (OF_KIND, k) in has


def own_nodes(walk, has, done):
    """The directions for which the next step leads to an own node, from a node with the profile."""
    if done == len(walk.steps):
        return []
    step = walk.steps[done]
    leading = [r for r in directions() if (WITH_EDGE, r) in has and step[0] in walk.laws.after_direction[r]]
    return [r for r in leading if fits(own_profile(walk.laws, r), step[1])]


def is_over(walk, has, done):
    """Whether all steps are done at a node with the profile, or may be by going out to its own nodes."""
    if done == len(walk.steps):
        return True
    return any([walk.ends[(r, done + 1)] for r in own_nodes(walk, has, done)])


def round_trips(walk, has, first):
    """Pairs: how many steps are done, first or more, when one goes out from a node with the profile, and when back."""
    pairs = []
    for done in range(first, len(walk.steps)):
        for r in own_nodes(walk, has, done):
            came = [back for back in walk.backs[(r, done + 1)] if fits(has, walk.steps[back - 1][1])]
            pairs.extend([(done, back) for back in came])
    return pairs


def look_out(walk, r, done):
    """Finds out backs and ends for the own node for r."""
    has = own_profile(walk.laws, r)
    homeward = walk.laws.after_direction[turned(r)]
    standing = reached([done], round_trips(walk, has, done))
    leaving = [at for at in standing if at < len(walk.steps) and walk.steps[at][0] in homeward]
    walk.backs[(r, done)] = [at + 1 for at in leaving]
    walk.ends[(r, done)] = any([is_over(walk, has, at) for at in standing])


def told_moves(walk, told, profiles):
    """Pairs of places: from, to. A place is a told node and how many steps are done there."""
    moves = []
    for x in nodes():
        moves.extend([((x, done), (x, back)) for done, back in round_trips(walk, profiles[x], 0)])
        for y in nodes():
            there = directions_between(told, walk.laws, x, y)
            for done, step in enumerate(walk.steps):
                if step[0] in there and fits(profiles[y], step[1]):
                    moves.append(((x, done), (y, done + 1)))
    return moves


def certain_starts(told, laws, steps):
    """The told nodes from which it's certain that the steps lead, rising."""
    if not can_be(told, laws):
        return nodes()
    walk = Walk(laws, steps)
    profiles = {}
    for x in nodes():
        profiles[x] = profile(told, laws, x)
    places = []
    for done in range(len(steps) + 1):
        places.extend([(x, done) for x in nodes() if is_over(walk, profiles[x], done)])
    # Back from the end, so that all starts are found at once.
    found = reached(places, [(after, before) for before, after in told_moves(walk, told, profiles)])
    return [x for x in nodes() if (x, 0) in found]
