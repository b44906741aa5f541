"""Chain and from_all, held against a tree of nodes that is written out."""

import random
import unittest

from helper import ask, fewest_graph, in_a_tree, row_of, some_desk, some_steps


def steps_along(chance, graph, x):
    """Steps that lead from x somewhere in the graph, if any do; the kinds are sometimes asked."""
    steps = []
    for turn in range(chance.randint(1, 4)):
        ways = sorted(((r, y) for r in range(2, 10) for z, y in graph.pairs(r) if z == x), key=repr)
        if not ways:
            break
        r, x = chance.choice(ways)
        steps.append((r, chance.choice([0] + sorted(k for y, k in graph.kinds if y == x))))
    return steps


class TestTheTree(unittest.TestCase):
    """A row of steps certainly leads just if it does where nobody's nodes are each added for one edge alone."""

    def starts(self, graph, steps):
        return [x for x in range(1, 9) if graph.steps_lead(x, steps)]

    def hold(self, seed, desks, *sizes):
        chance = random.Random(seed)
        outcomes = {"nowhere": 0, "somewhere": 0, "out of what is told": 0}
        for turn in range(desks):
            told, rules = some_desk(chance, *sizes)
            rules = [rule for rule in rules if rule[0] in ("sub", "role")]
            graph = fewest_graph(told, rules, in_a_tree(5))
            bare = fewest_graph(told, rules, lambda x, r: None)
            rows = [steps_along(chance, graph, chance.randint(1, sizes[2])) for turn in range(8)]
            rows += [some_steps(chance, sizes[3], sizes[4]) for turn in range(8)]
            asked = [("from_all", row_of(steps)) for steps in rows]
            asked += [("chain", chance.randint(1, sizes[2]), row_of(steps)) for steps in rows]
            given = ask(*rules, *told, *asked)[-len(asked):]
            for call, steps, row in zip(asked, rows + rows, given):
                found = self.starts(graph, steps)
                expected = [len(found)] + found if call[0] == "from_all" else [int(call[1] in found)]
                self.assertEqual(row, expected, (told, rules, call))
                outcomes["somewhere" if found else "nowhere"] += 1
                outcomes["out of what is told"] += found != self.starts(bare, steps)
        self.assertGreater(min(outcomes.values()), desks)

    def test_one_label(self):
        self.hold(8, 150, 4, 10, 3, 2, 1)

    def test_two_labels(self):
        self.hold(9, 150, 5, 12, 4, 3, 2)

    def test_four_labels(self):
        self.hold(10, 100, 14, 12, 8, 6, 4)


if __name__ == "__main__":
    unittest.main()
