"""Calls as the tests write them: ("sub", K(1), E(2)), ("chain", 1, [2, 0]) and the like; and graphs themselves."""

from whatmustbe.desk import answers

NAMES = (
    "kind", "edge", "drop", "sub", "role", "never", "neverrole", "strike", "is_so", "who",
    "edges", "chain", "from_all", "sound", "follows", "bad", "idle", "whence", "fewest",
)
TOP = 4294967295
EVERYBODY = [8, 1, 2, 3, 4, 5, 6, 7, 8]
EVERY_DIRECTION = [8, 2, 3, 4, 5, 6, 7, 8, 9]


def K(k):
    """Being of kind k."""
    return (0, k)


def E(r):
    """Having an edge in direction r."""
    return (1, r)


ALL_BASIC = [K(k) for k in range(1, 7)] + [E(r) for r in range(2, 10)]
NO_BASIC_ONES = (
    K(0), K(7), K(TOP), E(0), E(1), E(10), E(TOP), (2, 2), (2, 1), (TOP, 2), (TOP, 1), (TOP, TOP),
)


def flat(calls):
    numbers = []
    for call in calls:
        numbers.append(NAMES.index(call[0]))
        for part in call[1:]:
            if isinstance(part, list):
                numbers.append(len(part))
            numbers.extend((part,) if isinstance(part, int) else part)
    return numbers


def parted(given):
    rows = []
    at = 0
    while at < len(given):
        rows.append(given[at + 1:at + 1 + given[at]])
        assert len(rows[-1]) == given[at]
        at += 1 + given[at]
    return rows


def ask(*calls):
    """What is answered to each of the calls."""
    rows = parted(answers(flat(calls)))
    assert len(rows) == len(calls)
    return rows


def last(*calls):
    """What is answered to the last of the calls."""
    return ask(*calls)[-1]


def fourteen():
    """Fourteen different things told."""
    return [("kind", x, k) for x in (1, 2) for k in range(1, 7)] + [("edge", 1, 1, 2), ("edge", 8, 4, 8)]


def twelve():
    """Twelve rules of all four words."""
    return [("sub", K(1), K(2)), ("role", 2, 4), ("never", K(5), K(6)), ("neverrole", 6, 8)] * 3


class Graph:
    """A graph: (x, k) in kinds; (x, a, y) in edges."""

    def __init__(self, kinds, edges):
        self.kinds = set(kinds)
        self.edges = set(edges)

    def nodes(self):
        return {x for x, k in self.kinds} | {x for x, a, y in self.edges} | {y for x, a, y in self.edges}

    def pairs(self, r):
        """All (x, y) with an edge from x to y in direction r."""
        return {(x, y) if r % 2 == 0 else (y, x) for x, a, y in self.edges if a == r // 2}

    def those(self, b):
        """All nodes that are b."""
        return {x for x, k in self.kinds if k == b[1]} if b[0] == 0 else {x for x, y in self.pairs(b[1])}

    def steps_lead(self, x, steps):
        """Whether from x one comes so: in each step's direction to some node, of the step's kind."""
        standing = {x}
        for r, k in steps:
            standing = {y for z, y in self.pairs(r) if z in standing and (k == 0 or (y, k) in self.kinds)}
        return bool(standing)

    def link(self, x, r, y):
        self.edges.add((x, r // 2, y) if r % 2 == 0 else (y, r // 2, x))

    def keeps(self, rule):
        word, b, c = rule
        if word == "sub":
            return self.those(b) <= self.those(c)
        if word == "role":
            return self.pairs(b) <= self.pairs(c)
        if word == "never":
            return not self.those(b) & self.those(c)
        return not self.pairs(b) & self.pairs(c)

    def keeps_all(self, rules):
        return all(self.keeps(rule) for rule in rules)


def on_floors(x, r):
    """The node that x is given for an edge in direction r.

    Nobody's nodes lie on three floors that go round, so that no two are reached from one another
    both ways, nor from one node by two directions.
    """
    return ((x[0] + 1) % 3 if isinstance(x, tuple) else 0, r)


def in_a_tree(depth):
    """Gives x, for an edge in direction r, a node that is nobody else's: at most so many behind one another."""
    def fresh(x, r):
        path = (x if isinstance(x, tuple) else (x,)) + (r,)
        return path if len(path) <= depth + 1 else None
    return fresh


def just_told(told):
    return Graph([t[1:] for t in told if t[0] == "kind"], [t[1:] for t in told if t[0] == "edge"])


def complete(graph, rules, fresh):
    """Adds what sub and role ask for, and no more. Where fresh gives no node, sub is not kept."""
    before = None
    while before != (len(graph.kinds), len(graph.edges)):
        before = (len(graph.kinds), len(graph.edges))
        for word, b, c in rules:
            if word == "role":
                for x, y in graph.pairs(b):
                    graph.link(x, c, y)
            if word == "sub":
                for x in graph.those(b) - graph.those(c):
                    if c[0] == 0:
                        graph.kinds.add((x, c[1]))
                    elif fresh(x, c[1]) is not None:
                        graph.link(x, c[1], fresh(x, c[1]))


def fewest_graph(told, rules, fresh=on_floors):
    """A graph with what's told in which sub and role are kept by adding only what they ask for."""
    graph = just_told(told)
    complete(graph, rules, fresh)
    return graph


def full_graph(told, rules, depth):
    """As the fewest graph in a tree, but each node has one of its own for each direction in which it has an edge."""
    graph = just_told(told)
    fresh = in_a_tree(depth)
    before = None
    while before != (len(graph.kinds), len(graph.edges)):
        before = (len(graph.kinds), len(graph.edges))
        complete(graph, rules, fresh)
        for r in range(2, 10):
            for x in graph.those(E(r)):
                if fresh(x, r) is not None:
                    graph.link(x, r, fresh(x, r))
    return graph


def some_basic(chance, kinds, labels):
    if chance.random() < 0.5:
        return K(chance.randint(1, kinds))
    return E(chance.randint(2, 2 * labels + 1))


def some_rule(chance, kinds, labels):
    word = chance.choice(("sub", "sub", "sub", "role", "role", "never", "neverrole"))
    if word in ("sub", "never"):
        return (word, some_basic(chance, kinds, labels), some_basic(chance, kinds, labels))
    return (word, chance.randint(2, 2 * labels + 1), chance.randint(2, 2 * labels + 1))


def some_told(chance, nodes, kinds, labels):
    if chance.random() < 0.5:
        return ("kind", chance.randint(1, nodes), chance.randint(1, kinds))
    return ("edge", chance.randint(1, nodes), chance.randint(1, labels), chance.randint(1, nodes))


def some_desk(chance, most_told, most_rules, nodes, kinds, labels):
    told = {some_told(chance, nodes, kinds, labels) for turn in range(chance.randint(0, most_told))}
    rules = [some_rule(chance, kinds, labels) for turn in range(chance.randint(0, most_rules))]
    return sorted(told, key=repr), rules


def some_steps(chance, kinds, labels):
    count = chance.randint(1, 4)
    return [(chance.randint(2, 2 * labels + 1), chance.randint(0, kinds)) for turn in range(count)]


def row_of(steps):
    return [number for step in steps for number in step]


def every_graph(nodes, kinds, labels):
    """All graphs of so many nodes."""
    of_kinds = [(x, k) for x in range(nodes) for k in range(1, kinds + 1)]
    edges = [(x, a, y) for x in range(nodes) for a in range(1, labels + 1) for y in range(nodes)]
    for number in range(1 << (len(of_kinds) + len(edges))):
        chosen = [one for place, one in enumerate(of_kinds + edges) if number >> place & 1]
        yield Graph([one for one in chosen if len(one) == 2], [one for one in chosen if len(one) == 3])


def goes_with(graph, told, places):
    for thing in told:
        if thing[0] == "kind" and (places[thing[1]], thing[2]) not in graph.kinds:
            return False
        if thing[0] == "edge" and (places[thing[1]], thing[2], places[thing[3]]) not in graph.edges:
            return False
    return True
