"""Who, edges and sound, held against graphs themselves: neither what follows nor what is bad is asked here."""

import random
import unittest

from helper import ALL_BASIC, K, E, EVERYBODY, EVERY_DIRECTION
from helper import ask, every_graph, fewest_graph, full_graph, goes_with, last, row_of, some_desk, some_steps


class TestTheFewestGraph(unittest.TestCase):
    """What's told can be just if this graph keeps all rules; then certain is just what's so in it."""

    def expected_nodes(self, graph):
        found = [[x for x in range(1, 9) if x in graph.those(b)] for b in ALL_BASIC]
        return [[len(nodes)] + nodes for nodes in found]

    def expected_directions(self, graph, pairs):
        found = [[r for r in range(2, 10) if pair in graph.pairs(r)] for pair in pairs]
        return [[len(directions)] + directions for directions in found]

    def hold(self, seed, desks, *sizes):
        chance = random.Random(seed)
        outcomes = {True: 0, False: 0}
        for turn in range(desks):
            told, rules = some_desk(chance, *sizes)
            pairs = [(chance.randint(1, sizes[2]), chance.randint(1, sizes[2])) for turn in range(18)]
            asked = [("who", b) for b in ALL_BASIC] + [("edges", x, y) for x, y in pairs] + [("sound",)]
            rows = ask(*rules, *told, *asked)[-len(asked):]
            graph = fewest_graph(told, rules)
            if graph.keeps_all(rules):
                expected = self.expected_nodes(graph) + self.expected_directions(graph, pairs)
                self.assertEqual(rows, expected + [[1]], (told, rules, pairs))
            else:
                self.assertEqual(rows[:-1], [EVERYBODY] * 14 + [EVERY_DIRECTION] * 18, (told, rules))
                self.assertEqual(rows[-1][0], 0, (told, rules))
            outcomes[graph.keeps_all(rules)] += 1
        self.assertGreater(min(outcomes.values()), desks // 20)

    def test_desks_of_all_sizes(self):
        self.hold(1, 400, 14, 12, 8, 6, 4)

    def test_small_desks(self):
        self.hold(2, 400, 4, 6, 2, 2, 1)

    def test_desks_with_little_told_and_many_rules(self):
        self.hold(3, 400, 2, 12, 2, 3, 2)


def top_of(x):
    """The told node behind which x lies in the tree."""
    return x[0] if isinstance(x, tuple) else x


def wrong_in(graph, rules):
    """The told nodes at which, or out behind which, a rule isn't kept."""
    found = set()
    for word, b, c in rules:
        if word == "never":
            found |= {top_of(x) for x in graph.those(b) & graph.those(c)}
        if word == "neverrole":
            for x, y in graph.pairs(b) & graph.pairs(c):
                found |= {top_of(x), top_of(y)}
    return found


class TestTheFullGraph(unittest.TestCase):
    """A node is wrong just if a rule isn't kept at it or at a node out behind it, told or not."""

    def hold(self, seed, desks, depth, *sizes):
        chance = random.Random(seed)
        several = 0
        for turn in range(desks):
            told, rules = some_desk(chance, *sizes)
            found = wrong_in(full_graph(told, rules, depth), rules)
            self.assertEqual(last(*rules, *told, ("sound",)), [0, min(found)] if found else [1], (told, rules))
            several += 1 < min(found, default=0)
        self.assertGreater(several, desks // 20)

    def test_one_label(self):
        self.hold(6, 300, 4, 5, 8, 4, 3, 1)

    def test_two_labels(self):
        self.hold(7, 40, 5, 3, 7, 4, 2, 2)


class TestEveryGraph(unittest.TestCase):
    """What is certain is so in every graph of two nodes, wherever in it nodes 1 and 2 are."""

    def against(self, graph, told, rules, places, asked, rows):
        """Nothing that's answered is otherwise in the graph, which goes with what's told."""
        self.assertEqual(rows[-1], [1], (told, rules))
        for call, row in zip(asked, rows):
            if call[0] == "who":
                self.assertTrue({places[x] for x in row[1:]} <= graph.those(call[1]), (told, rules, call))
            if call[0] == "edges":
                pair = (places[call[1]], places[call[2]])
                self.assertTrue(all(pair in graph.pairs(r) for r in row[1:]), (told, rules, call))
            if call[0] == "from_all":
                steps = list(zip(call[1][::2], call[1][1::2]))
                self.assertTrue(all(graph.steps_lead(places[x], steps) for x in row[1:]), (told, rules, call))

    def test_no_graph_speaks_against_what_is_certain(self):
        chance = random.Random(4)
        graphs = list(every_graph(2, 2, 1))
        for turn in range(150):
            told, rules = some_desk(chance, 3, 5, 2, 2, 1)
            asked = [("who", b) for b in (K(1), K(2), E(2), E(3))]
            asked += [("edges", x, y) for x in (1, 2) for y in (1, 2)]
            asked += [("from_all", row_of(some_steps(chance, 2, 1))) for turn in range(6)]
            asked += [("sound",)]
            rows = ask(*rules, *told, *asked)[-len(asked):]
            for graph in [graph for graph in graphs if graph.keeps_all(rules)]:
                for places in [{1: x, 2: y} for x in range(2) for y in range(2)]:
                    if goes_with(graph, told, places):
                        self.against(graph, told, rules, places, asked, rows)


if __name__ == "__main__":
    unittest.main()
