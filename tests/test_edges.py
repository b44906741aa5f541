"""Promise 2 for edges, and the edges that are certain between told nodes."""

import unittest

from helper import K, E, EVERY_DIRECTION, TOP, ask, last


class TestEdges(unittest.TestCase):
    def test_told_edges_seen_from_both_ends(self):
        rows = ask(("edge", 1, 1, 8), ("edges", 1, 8), ("edges", 8, 1), ("edges", 1, 1), ("edges", 8, 8),
                   ("edges", 1, 2))
        self.assertEqual(rows[1:], [[1, 2], [1, 3], [0], [0], [0]])

    def test_the_last_label(self):
        rows = ask(("edge", 8, 4, 7), ("edges", 8, 7), ("edges", 7, 8))
        self.assertEqual(rows[1:], [[1, 8], [1, 9]])

    def test_several_rising(self):
        told = [("edge", 2, 4, 1), ("edge", 1, 3, 2), ("edge", 2, 1, 1), ("edge", 1, 1, 2), ("edge", 1, 2, 3)]
        rows = ask(*told, ("edges", 1, 2), ("edges", 2, 1), ("edges", 1, 3))
        self.assertEqual(rows[5:], [[4, 2, 3, 6, 9], [4, 2, 3, 7, 8], [1, 4]])

    def test_by_a_rule_forward(self):
        rows = ask(("role", 2, 4), ("edge", 1, 1, 2), ("edges", 1, 2), ("edges", 2, 1))
        self.assertEqual(rows[2:], [[2, 2, 4], [2, 3, 5]])

    def test_by_a_rule_to_backward(self):
        rows = ask(("role", 2, 5), ("edge", 1, 1, 2), ("edges", 1, 2), ("edges", 2, 1))
        self.assertEqual(rows[2:], [[2, 2, 5], [2, 3, 4]])

    def test_by_a_rule_of_backward(self):
        rows = ask(("role", 3, 6), ("edge", 1, 1, 2), ("edges", 1, 2), ("edges", 2, 1))
        self.assertEqual(rows[2:], [[2, 2, 7], [2, 3, 6]])

    def test_not_the_other_way_round(self):
        rows = ask(("role", 2, 4), ("edge", 1, 2, 2), ("edges", 1, 2), ("edges", 2, 1))
        self.assertEqual(rows[2:], [[1, 4], [1, 5]])

    def test_by_several_rules_one_behind_another(self):
        rules = [("role", 9, 5), ("role", 6, 9), ("role", 3, 6)]
        rows = ask(*rules, ("edge", 1, 1, 2), ("edges", 1, 2), ("edges", 2, 1))
        self.assertEqual(rows[4:], [[4, 2, 4, 7, 8], [4, 3, 5, 6, 9]])

    def test_in_every_direction(self):
        rules = [("role", 2, 3), ("role", 2, 4), ("role", 2, 6), ("role", 2, 9)]
        rows = ask(*rules, ("edge", 5, 1, 6), ("edges", 5, 6), ("edges", 6, 5))
        self.assertEqual(rows[5:], [EVERY_DIRECTION, EVERY_DIRECTION])

    def test_of_a_node_with_itself(self):
        rows = ask(("edge", 3, 1, 3), ("edges", 3, 3), ("role", 3, 8), ("edges", 3, 3), ("edges", 3, 4))
        self.assertEqual(rows[1:], [[2, 2, 3], [0], [4, 2, 3, 8, 9], [0]])

    def test_a_rule_of_having_edges_says_nothing_of_where_they_lead(self):
        rows = ask(("sub", E(2), E(4)), ("sub", K(1), E(6)), ("edge", 1, 1, 2), ("kind", 1, 1), ("edges", 1, 2))
        self.assertEqual(rows[4:], [[1, 2]])

    def test_nothing_at_the_beginning(self):
        self.assertEqual(last(("edges", 1, 8)), [0])

    def test_not_any_more(self):
        rows = ask(("edge", 1, 1, 2), ("role", 2, 4), ("strike", 0), ("edges", 1, 2), ("drop", 0), ("edges", 1, 2))
        self.assertEqual(rows[3:], [[1, 2], [0], [0]])

    def test_everything_where_what_is_told_cannot_be(self):
        desk = [("edge", 1, 1, 2), ("kind", 5, 1), ("never", K(1), K(1))]
        rows = ask(*desk, ("edges", 1, 2), ("edges", 2, 1), ("edges", 5, 5), ("edges", 8, 7), ("drop", 1),
                   ("edges", 1, 2), ("edges", 8, 7))
        self.assertEqual(rows[3:], [EVERY_DIRECTION] * 4 + [[1], [1, 2], [0]])


class TestRefusals(unittest.TestCase):
    def test_what_is_no_node(self):
        for x in (0, 9, TOP):
            rows = ask(("edges", x, 1), ("edges", 1, x), ("edges", x, x), ("edges", 1, 1))
            self.assertEqual(rows, [[-1], [-1], [-1], [0]], x)

    def test_also_where_everything_is_certain(self):
        rows = ask(("kind", 1, 1), ("never", K(1), K(1)), ("edges", 0, 1), ("edges", 1, 9), ("edges", 1, 1))
        self.assertEqual(rows[2:], [[-1], [-1], EVERY_DIRECTION])


if __name__ == "__main__":
    unittest.main()
