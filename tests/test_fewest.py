"""Fewest: the fewest things told without which the others can be, and of as few the first row."""

import itertools
import random
import unittest

from helper import K, E, ask, fourteen, last, twelve


class TestFewest(unittest.TestCase):
    def fewest(self, desk, *numbers):
        self.assertEqual(last(*desk, ("fewest",)), [len(numbers), *numbers])

    def test_none(self):
        self.fewest([])
        self.fewest(fourteen())
        self.fewest([("never", K(1), K(1)), ("kind", 1, 2)])

    def test_one_that_cannot_be_at_all(self):
        self.fewest([("never", K(1), K(1)), ("kind", 1, 2), ("kind", 1, 1), ("kind", 2, 2)], 1)
        self.fewest([("sub", K(1), E(2)), ("sub", E(3), K(3)), ("never", E(3), K(3)), ("kind", 7, 3), ("kind", 8, 1)], 1)
        self.fewest([("neverrole", 3, 3), ("kind", 1, 2), ("edge", 1, 2, 2), ("edge", 1, 1, 2)], 2)

    def test_of_two_that_cannot_be_together_the_first(self):
        self.fewest([("never", K(1), K(2)), ("kind", 1, 3), ("kind", 1, 1), ("kind", 1, 2)], 1)
        self.fewest([("never", K(1), K(2)), ("kind", 1, 3), ("kind", 1, 2), ("kind", 1, 1)], 1)
        self.fewest([("neverrole", 2, 5), ("edge", 2, 2, 1), ("edge", 1, 1, 2)], 0)

    def test_one_that_stands_against_several(self):
        told = [("kind", 1, 1), ("kind", 1, 2), ("kind", 1, 3), ("kind", 1, 4)]
        self.fewest([("never", K(4), K(k)) for k in (1, 2, 3)] + told, 3)
        self.fewest([("never", K(3), K(k)) for k in (1, 2, 4)] + told, 2)
        self.fewest([("never", K(1), K(k)) for k in (2, 3, 4)] + told, 0)

    def test_the_first_is_not_always_among_them(self):
        told = [("kind", 1, 1), ("kind", 1, 2), ("edge", 1, 1, 2), ("edge", 3, 1, 1)]
        self.fewest([("never", E(2), K(1)), ("never", E(2), K(2)), ("never", E(2), E(3)), *told], 2)

    def test_several_rows_of_as_few(self):
        """Kinds in a ring of four: the first and the third, or the second and the fourth."""
        ring = [("never", K(1), K(2)), ("never", K(2), K(3)), ("never", K(3), K(4)), ("never", K(4), K(1))]
        for order in itertools.permutations((1, 2, 3, 4)):
            opposite = (order[0] + 1) % 4 + 1
            self.fewest([*ring, *[("kind", 5, k) for k in order]], 0, order.index(opposite))

    def test_the_lower_number_at_the_first_place_that_differs(self):
        """Kinds in a row of six: 1, 3, 5 go, or 2, 3, 5, or 2, 4, 5, or 2, 4, 6."""
        row = [("never", K(k), K(k + 1)) for k in range(1, 6)]
        self.fewest(row + [("kind", 1, k) for k in (1, 2, 3, 4, 5, 6)], 0, 2, 4)
        self.fewest(row + [("kind", 1, k) for k in (6, 5, 4, 3, 2, 1)], 0, 2, 4)
        self.fewest(row + [("kind", 1, k) for k in (2, 4, 6, 1, 3, 5)], 0, 1, 2)
        self.fewest(row + [("kind", 1, k) for k in (2, 5, 6, 4, 3, 1)], 0, 1, 3)

    def test_one_that_goes_anyway_is_no_reason_for_another_to_go(self):
        self.fewest([("never", K(2), K(2)), ("never", K(1), K(2)), ("kind", 1, 1), ("kind", 1, 2)], 1)
        self.fewest([("never", K(2), K(2)), ("never", K(1), K(3)), ("kind", 1, 3), ("kind", 1, 2), ("kind", 1, 1)], 0, 1)

    def test_edges_between_the_same_two(self):
        told = [("edge", 1, a, 2) for a in (1, 2, 3, 4)]
        self.fewest([("neverrole", r, s) for r, s in ((2, 4), (5, 7), (6, 8))] + told, 0, 2)
        self.fewest([("neverrole", r, s) for r, s in ((2, 4), (4, 6), (4, 8))] + told, 1)

    def test_nothing_goes(self):
        desk = [("never", K(1), K(2)), ("kind", 1, 1), ("kind", 1, 2)]
        rows = ask(*desk, ("fewest",), ("sound",), ("fewest",), ("drop", 0), ("fewest",), ("sound",))
        self.assertEqual(rows[3:], [[1, 0], [0, 1], [1, 0], [1], [0], [1]])


class TestAFullDesk(unittest.TestCase):
    def test_everything_goes(self):
        rules = [("never", K(1), K(1)), *[("sub", K(k), K(1)) for k in range(2, 7)], *[("sub", K(1), E(r)) for r in
                 (2, 4, 6, 8)], ("never", E(3), E(3)), ("neverrole", 8, 8)]
        self.assertEqual(last(*rules, *fourteen(), ("fewest",)), [14, *range(14)])

    def test_all_but_one_go_at_each_node(self):
        """Four kinds and having an edge, no two of which go together: the last at each node stays."""
        rules = [("never", K(a), K(b)) for a, b in itertools.combinations((1, 2, 3, 4), 2)]
        rules += [("never", E(2), K(k)) for k in (1, 2, 3, 4)]
        told = [("kind", x, k) for x in (1, 2) for k in (1, 2, 3, 4)] + [("edge", x, 1, 8) for x in (1, 2)]
        told += [("kind", 3, k) for k in (4, 3, 2, 1)]
        self.assertEqual(last(*rules, *told, ("fewest",)), [11, 0, 1, 2, 3, 4, 5, 6, 7, 10, 11, 12])

    def test_two_kinds_each_that_do_not_go_together(self):
        told = [("kind", x, k) for x in range(1, 8) for k in (1, 2)]
        desk = [("never", K(1), K(2)), *told]
        self.assertEqual(ask(*desk, ("fewest",), ("sound",))[15:], [[7, 0, 2, 4, 6, 8, 10, 12], [0, 1]])

    def test_held_against_all_choices(self):
        """Kinds and what forbids two of them, so that it's seen at once which choices can be."""
        chance = random.Random(5)
        pairs = list(itertools.combinations(range(1, 7), 2))
        for turn in range(12):
            forbidden = chance.sample(pairs, 12 if turn % 2 == 0 else 5)
            told = chance.sample([(x, k) for x in (1, 2, 3) for k in range(1, 7)], 14)
            rows = ask(*[("never", K(a), K(b)) for a, b in forbidden], *[("kind", x, k) for x, k in told], ("fewest",))
            odds = [(n, m) for n, m in itertools.combinations(range(14), 2)
                    if told[n][0] == told[m][0] and tuple(sorted((told[n][1], told[m][1]))) in forbidden]
            expected = next(row for size in range(15) for row in itertools.combinations(range(14), size)
                            if all(n in row or m in row for n, m in odds))
            self.assertEqual(rows[-1], [len(expected), *expected], (forbidden, told))

    def test_with_twelve_rules_of_all_words(self):
        rows = ask(*twelve(), *fourteen(), ("fewest",), ("sound",))
        self.assertEqual(rows[26:], [[2, 4, 10], [0, 1]])


if __name__ == "__main__":
    unittest.main()
