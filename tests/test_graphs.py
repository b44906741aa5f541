"""Who, held against graphs themselves: neither what follows nor what is bad is asked here."""

import random
import unittest

from helper import K, E, ask

EVERYBODY = [8, 1, 2, 3, 4, 5, 6, 7, 8]


class Graph:
    """A graph: (x, k) in kinds; (x, a, y) in edges."""

    def __init__(self, kinds, edges):
        self.kinds = set(kinds)
        self.edges = set(edges)

    def nodes(self):
        return {x for x, k in self.kinds} | {x for x, a, y in self.edges} | {y for x, a, y in self.edges}

    def pairs(self, r):
        """All (x, y) with an edge from x to y in direction r."""
        return {(x, y) if r % 2 == 0 else (y, x) for x, a, y in self.edges if a == r // 2}

    def those(self, b):
        """All nodes that are b."""
        return {x for x, k in self.kinds if k == b[1]} if b[0] == 0 else {x for x, y in self.pairs(b[1])}

    def link(self, x, r, y):
        self.edges.add((x, r // 2, y) if r % 2 == 0 else (y, r // 2, x))

    def keeps(self, rule):
        word, b, c = rule
        if word == "sub":
            return self.those(b) <= self.those(c)
        if word == "role":
            return self.pairs(b) <= self.pairs(c)
        if word == "never":
            return not self.those(b) & self.those(c)
        return not self.pairs(b) & self.pairs(c)

    def keeps_all(self, rules):
        return all(self.keeps(rule) for rule in rules)


def fresh(x, r):
    """The node that x is given for an edge in direction r.

    Nobody's nodes lie on three floors that go round, so that no two are reached from one another
    both ways, nor from one node by two directions.
    """
    return ((x[0] + 1) % 3 if isinstance(x, tuple) else 0, r)


def fewest_graph(told, rules):
    """A graph with what's told in which sub and role are kept by adding only what they ask for."""
    graph = Graph([t[1:] for t in told if t[0] == "kind"], [t[1:] for t in told if t[0] == "edge"])
    before = None
    while before != (len(graph.kinds), len(graph.edges)):
        before = (len(graph.kinds), len(graph.edges))
        for word, b, c in rules:
            if word == "role":
                for x, y in graph.pairs(b):
                    graph.link(x, c, y)
            if word == "sub":
                for x in graph.those(b) - graph.those(c):
                    if c[0] == 0:
                        graph.kinds.add((x, c[1]))
                    else:
                        graph.link(x, c[1], fresh(x, c[1]))
    return graph


def some_basic(chance, kinds, labels):
    if chance.random() < 0.5:
        return K(chance.randint(1, kinds))
    return E(chance.randint(2, 2 * labels + 1))


def some_rule(chance, kinds, labels):
    word = chance.choice(("sub", "sub", "sub", "role", "role", "never", "neverrole"))
    if word in ("sub", "never"):
        return (word, some_basic(chance, kinds, labels), some_basic(chance, kinds, labels))
    return (word, chance.randint(2, 2 * labels + 1), chance.randint(2, 2 * labels + 1))


def some_told(chance, nodes, kinds, labels):
    if chance.random() < 0.5:
        return ("kind", chance.randint(1, nodes), chance.randint(1, kinds))
    return ("edge", chance.randint(1, nodes), chance.randint(1, labels), chance.randint(1, nodes))


def some_desk(chance, most_told, most_rules, nodes, kinds, labels):
    told = {some_told(chance, nodes, kinds, labels) for turn in range(chance.randint(0, most_told))}
    rules = [some_rule(chance, kinds, labels) for turn in range(chance.randint(0, most_rules))]
    return sorted(told, key=repr), rules


ALL_BASIC = [K(k) for k in range(1, 7)] + [E(r) for r in range(2, 10)]


class TestTheFewestGraph(unittest.TestCase):
    """What's told can be just if this graph keeps all rules; then certain is just what's so in it."""

    def expected(self, told, rules):
        graph = fewest_graph(told, rules)
        if not graph.keeps_all(rules):
            return [EVERYBODY] * len(ALL_BASIC)
        found = [[x for x in range(1, 9) if x in graph.those(b)] for b in ALL_BASIC]
        return [[len(nodes)] + nodes for nodes in found]

    def hold(self, seed, desks, *sizes):
        chance = random.Random(seed)
        outcomes = {True: 0, False: 0}
        for turn in range(desks):
            told, rules = some_desk(chance, *sizes)
            rows = ask(*rules, *told, *[("who", b) for b in ALL_BASIC])[-len(ALL_BASIC):]
            expected = self.expected(told, rules)
            self.assertEqual(rows, expected, (told, rules))
            outcomes[expected[0] == EVERYBODY and expected[-1] == EVERYBODY] += 1
        self.assertGreater(min(outcomes.values()), desks // 20)

    def test_desks_of_all_sizes(self):
        self.hold(1, 400, 14, 12, 8, 6, 4)

    def test_small_desks(self):
        self.hold(2, 400, 4, 6, 2, 2, 1)

    def test_desks_with_little_told_and_many_rules(self):
        self.hold(3, 400, 2, 12, 2, 3, 2)


def every_graph(nodes, kinds, labels):
    """All graphs of so many nodes."""
    of_kinds = [(x, k) for x in range(nodes) for k in range(1, kinds + 1)]
    edges = [(x, a, y) for x in range(nodes) for a in range(1, labels + 1) for y in range(nodes)]
    for number in range(1 << (len(of_kinds) + len(edges))):
        chosen = [one for place, one in enumerate(of_kinds + edges) if number >> place & 1]
        yield Graph([one for one in chosen if len(one) == 2], [one for one in chosen if len(one) == 3])


def goes_with(graph, told, places):
    for thing in told:
        if thing[0] == "kind" and (places[thing[1]], thing[2]) not in graph.kinds:
            return False
        if thing[0] == "edge" and (places[thing[1]], thing[2], places[thing[3]]) not in graph.edges:
            return False
    return True


class TestEveryGraph(unittest.TestCase):
    """What is certain is so in every graph of two nodes, wherever in it nodes 1 and 2 are."""

    def test_no_graph_speaks_against_what_is_certain(self):
        chance = random.Random(4)
        graphs = list(every_graph(2, 2, 1))
        asked = [K(1), K(2), E(2), E(3)]
        for turn in range(150):
            told, rules = some_desk(chance, 3, 5, 2, 2, 1)
            rows = ask(*rules, *told, *[("who", b) for b in asked])[-len(asked):]
            for graph in [graph for graph in graphs if graph.keeps_all(rules)]:
                for places in [{1: x, 2: y} for x in range(2) for y in range(2)]:
                    if goes_with(graph, told, places):
                        for b, row in zip(asked, rows):
                            self.assertLess(row[0], 8, (told, rules))
                            self.assertTrue({places[x] for x in row[1:]} <= graph.those(b), (told, rules, b))


if __name__ == "__main__":
    unittest.main()
