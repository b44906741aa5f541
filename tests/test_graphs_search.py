"""Fewest, idle, follows and bad, held against plain searches among graphs."""

import itertools
import random
import unittest

from helper import ALL_BASIC, K, E
from helper import ask, every_graph, fewest_graph, last, some_desk, some_rule


def can_be(told, rules):
    return fewest_graph(told, rules).keeps_all(rules)


def plain_fewest(told, rules):
    """Takes out each choice of what's told, fewest first, until the others can be."""
    for size in range(len(told) + 1):
        for row in itertools.combinations(range(len(told)), size):
            if can_be([thing for n, thing in enumerate(told) if n not in row], rules):
                return [size, *row]


class TestFewest(unittest.TestCase):
    def hold(self, seed, desks, *sizes):
        chance = random.Random(seed)
        sizes_met = {}
        for turn in range(desks):
            told, rules = some_desk(chance, *sizes)
            chance.shuffle(told)
            expected = plain_fewest(told, rules)
            self.assertEqual(last(*rules, *told, ("fewest",)), expected, (told, rules))
            sizes_met[expected[0]] = sizes_met.get(expected[0], 0) + 1
        for size in (0, 1, 2, 3):
            self.assertGreater(sizes_met.get(size, 0), desks // 100, size)

    def test_small_desks(self):
        self.hold(11, 300, 7, 8, 2, 3, 1)

    def test_two_labels(self):
        self.hold(12, 200, 8, 12, 3, 4, 2)

    def test_four_labels(self):
        self.hold(13, 100, 9, 12, 1, 6, 4)


def all_rules(basics, directions):
    rules = [(word, b, c) for word in ("sub", "never") for b in basics for c in basics]
    return rules + [(word, r, s) for word in ("role", "neverrole") for r in directions for s in directions]


def barest(rule):
    """What's told in the barest case in which the rule has something to say."""
    def telling(r, x, y):
        return ("edge", x, r // 2, y) if r % 2 == 0 else ("edge", y, r // 2, x)

    word, b, c = rule
    if word in ("role", "neverrole"):
        return [telling(b, 1, 2)] + ([telling(c, 1, 2)] if word == "neverrole" else [])
    asked = [b, c] if word == "never" else [b]
    return [("kind", 1, one[1]) if one[0] == 0 else telling(one[1], 1, place + 2) for place, one in enumerate(asked)]


class TestSmallGraphs(unittest.TestCase):
    """With one kind and one label it's seen among the graphs of three nodes what holds in every graph.

    Now and then only a larger one tells: then the fewest graph of the barest case does.
    """

    BASICS = [K(1), E(2), E(3)]
    RULES = all_rules(BASICS, (2, 3))

    @classmethod
    def setUpClass(cls):
        graphs = list(every_graph(3, 1, 1))
        cls.everything = (1 << len(graphs)) - 1
        # By a rule the graphs that keep it, one bit each.
        cls.keeping = {
            rule: sum(graph.keeps(rule) << place for place, graph in enumerate(graphs)) for rule in cls.RULES}

    def against(self, rule, others):
        """Whether a graph keeps the others and not the rule: 1 if a small one does, 2 if only a larger one."""
        left = self.everything
        for other in others:
            left &= self.keeping[other]
        if left & ~self.keeping[rule]:
            return 1
        graph = fewest_graph(barest(rule), others)
        return 2 if graph.keeps_all(others) and not graph.keeps(rule) else 0

    def test_idle(self):
        chance = random.Random(14)
        met = {}
        for turn in range(400):
            chosen = [chance.choice(self.RULES) for turn in range(chance.randint(1, 6))]
            rows = ask(*chosen, *[("idle", n) for n in range(len(chosen))])[len(chosen):]
            for n, rule in enumerate(chosen):
                found = self.against(rule, chosen[:n] + chosen[n + 1:])
                self.assertEqual(rows[n], [0 if found else 1], (chosen, n))
                met[rule[0], found] = met.get((rule[0], found), 0) + 1
        for word in ("sub", "role", "never", "neverrole"):
            self.assertGreater(min(met[word, 0], met[word, 1]), 20)
            self.assertLess(met.get((word, 2), 0), 20)

    def test_follows_and_bad(self):
        chance = random.Random(17)
        for turn in range(300):
            chosen = [chance.choice(self.RULES) for turn in range(chance.randint(1, 6))]
            asked = [("follows", b, c) for b in self.BASICS for c in self.BASICS]
            rows = ask(*chosen, *asked, ("bad",))[len(chosen):]
            for (name, b, c), row in zip(asked, rows):
                self.assertEqual(row, [0 if self.against(("sub", b, c), chosen) else 1], (chosen, b, c))
            bad = [b for b in self.BASICS if not self.against(("never", b, b), chosen)]
            self.assertEqual(rows[-1], [len(bad)] + [number for b in bad for number in b], chosen)


class TestLargerGraphs(unittest.TestCase):
    """A rule is idle just if no graph keeps the others and not it: none, if not the fewest graph of its barest case."""

    def test_idle(self):
        chance = random.Random(15)
        met = {}
        for turn in range(300):
            chosen = [some_rule(chance, 3, 2) for turn in range(chance.randint(1, 12))]
            rows = ask(*chosen, *[("idle", n) for n in range(len(chosen))])[len(chosen):]
            for n, rule in enumerate(chosen):
                others = chosen[:n] + chosen[n + 1:]
                graph = fewest_graph(barest(rule), others)
                expected = int(graph.keeps(rule) or not graph.keeps_all(others))
                self.assertEqual(rows[n], [expected], (chosen, n))
                met[rule[0], expected] = met.get((rule[0], expected), 0) + 1
        self.assertEqual(len(met), 8)
        self.assertGreater(min(met.values()), 20)

    def test_follows_and_bad(self):
        chance = random.Random(16)
        for turn in range(100):
            rules = [some_rule(chance, 6, 4) for turn in range(chance.randint(1, 12))]
            asked = [(b, c) for b in chance.sample(ALL_BASIC, 4) for c in chance.sample(ALL_BASIC, 8)]
            rows = ask(*rules, *[("follows", b, c) for b, c in asked], ("bad",))[len(rules):]
            bad = [b for b in ALL_BASIC if not can_be(barest(("sub", b, b)), rules)]
            self.assertEqual(rows[-1], [len(bad)] + [number for b in bad for number in b], rules)
            for (b, c), row in zip(asked, rows):
                graph = fewest_graph(barest(("sub", b, c)), rules)
                self.assertEqual(row, [int(b in bad or 1 in graph.those(c))], (rules, b, c))


if __name__ == "__main__":
    unittest.main()
