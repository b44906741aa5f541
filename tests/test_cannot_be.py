"""Is and who where what's told can't be, and where it only seems so."""

import unittest

from helper import K, E, EVERYBODY, ask


class Case(unittest.TestCase):
    def cannot_be(self, *calls):
        rows = ask(*calls, ("who", K(6)), ("who", E(9)), ("is_so", 8, K(5)), ("is_so", 1, E(8)))
        self.assertEqual(rows[len(calls):], [EVERYBODY, EVERYBODY, [1], [1]])

    def can_be(self, *calls):
        rows = ask(*calls, ("who", K(6)), ("who", E(9)), ("is_so", 8, K(5)), ("is_so", 1, E(8)))
        self.assertEqual(rows[len(calls):], [[0], [0], [0], [0]])


class TestNever(Case):
    def test_two_kinds_of_one_node(self):
        self.cannot_be(("never", K(1), K(2)), ("kind", 1, 1), ("kind", 1, 2))
        self.cannot_be(("never", K(2), K(1)), ("kind", 8, 1), ("kind", 8, 2))

    def test_two_kinds_of_two_nodes(self):
        self.can_be(("never", K(1), K(2)), ("kind", 1, 1), ("kind", 2, 2))

    def test_the_rule_alone(self):
        self.can_be(("never", K(1), K(1)), ("never", E(2), E(2)), ("neverrole", 2, 2))

    def test_one_kind_twice(self):
        self.cannot_be(("never", K(1), K(1)), ("kind", 3, 1))
        self.can_be(("never", K(1), K(1)), ("kind", 3, 2))

    def test_one_direction_twice(self):
        self.cannot_be(("never", E(3), E(3)), ("edge", 1, 1, 2))
        self.cannot_be(("never", E(2), E(2)), ("edge", 1, 1, 2))
        self.can_be(("never", E(2), E(2)), ("edge", 1, 2, 2))

    def test_a_kind_and_an_edge(self):
        self.cannot_be(("never", K(1), E(3)), ("kind", 2, 1), ("edge", 1, 1, 2))
        self.can_be(("never", K(1), E(3)), ("kind", 1, 1), ("edge", 1, 1, 2))

    def test_an_edge_to_itself(self):
        self.cannot_be(("never", E(2), E(3)), ("edge", 5, 1, 5))
        self.can_be(("never", E(2), E(3)), ("edge", 5, 1, 6))

    def test_edges_to_two_nodes(self):
        self.cannot_be(("never", E(2), E(4)), ("edge", 5, 1, 6), ("edge", 5, 2, 7))

    def test_what_follows_of_two_kinds(self):
        rules = [("never", K(3), K(4)), ("sub", K(1), K(3)), ("sub", K(2), K(4))]
        self.cannot_be(*rules, ("kind", 1, 1), ("kind", 1, 2))
        self.can_be(*rules, ("kind", 1, 1), ("kind", 2, 2))

    def test_what_follows_of_one_kind(self):
        rules = [("never", K(3), K(4)), ("sub", K(1), K(3)), ("sub", K(1), K(4))]
        self.cannot_be(*rules, ("kind", 1, 1))
        self.can_be(*rules, ("kind", 1, 3), ("kind", 2, 4))

    def test_can_be_again_after_drop_and_strike(self):
        bad = [("never", K(1), K(2)), ("kind", 1, 1), ("kind", 1, 2)]
        self.cannot_be(*bad)
        self.can_be(*bad, ("drop", 0))
        self.can_be(*bad, ("strike", 0))


class TestNeverrole(Case):
    def test_two_edges_between_two_nodes(self):
        self.cannot_be(("neverrole", 2, 4), ("edge", 1, 1, 2), ("edge", 1, 2, 2))
        self.cannot_be(("neverrole", 4, 2), ("edge", 2, 1, 1), ("edge", 2, 2, 1))
        self.cannot_be(("neverrole", 3, 5), ("edge", 1, 1, 2), ("edge", 1, 2, 2))

    def test_edges_that_do_not_go_together(self):
        self.can_be(("neverrole", 2, 4), ("edge", 1, 1, 2), ("edge", 2, 2, 1))
        self.can_be(("neverrole", 2, 4), ("edge", 1, 1, 2), ("edge", 1, 2, 3))
        self.can_be(("neverrole", 2, 5), ("edge", 1, 1, 2), ("edge", 1, 2, 2))

    def test_forward_and_backward(self):
        self.cannot_be(("neverrole", 2, 5), ("edge", 1, 1, 2), ("edge", 2, 2, 1))
        self.cannot_be(("neverrole", 2, 3), ("edge", 1, 1, 2), ("edge", 2, 1, 1))
        self.can_be(("neverrole", 2, 3), ("edge", 1, 1, 2), ("edge", 2, 1, 3))

    def test_one_direction_twice(self):
        self.cannot_be(("neverrole", 2, 2), ("edge", 1, 1, 2))
        self.cannot_be(("neverrole", 3, 3), ("edge", 1, 1, 2))
        self.can_be(("neverrole", 2, 2), ("edge", 1, 2, 2))

    def test_an_edge_to_itself(self):
        self.cannot_be(("neverrole", 2, 3), ("edge", 5, 1, 5))
        self.can_be(("neverrole", 2, 3), ("edge", 5, 1, 6))
        self.cannot_be(("neverrole", 2, 5), ("edge", 5, 1, 5), ("edge", 5, 2, 5))

    def test_what_follows_of_told_edges(self):
        self.cannot_be(("role", 2, 6), ("neverrole", 6, 4), ("edge", 1, 1, 2), ("edge", 1, 2, 2))
        self.cannot_be(("role", 3, 6), ("neverrole", 7, 4), ("edge", 1, 1, 2), ("edge", 1, 2, 2))
        self.can_be(("role", 3, 6), ("neverrole", 6, 4), ("edge", 1, 1, 2), ("edge", 1, 2, 2))

    def test_what_follows_of_a_turned_direction(self):
        self.cannot_be(("role", 2, 4), ("neverrole", 3, 5), ("edge", 1, 1, 2))
        self.cannot_be(("role", 3, 5), ("neverrole", 2, 4), ("edge", 1, 1, 2))
        self.cannot_be(("role", 2, 3), ("neverrole", 2, 3), ("edge", 1, 1, 2))
        self.can_be(("role", 2, 4), ("neverrole", 3, 5), ("edge", 1, 2, 2))

    def test_of_an_edge_that_nobody_told(self):
        self.cannot_be(("sub", K(1), E(2)), ("neverrole", 2, 2), ("kind", 1, 1))
        self.cannot_be(("sub", K(1), E(2)), ("neverrole", 3, 3), ("kind", 1, 1))
        self.cannot_be(("sub", K(1), E(2)), ("role", 2, 4), ("neverrole", 2, 4), ("kind", 1, 1))
        self.cannot_be(("sub", K(1), E(2)), ("role", 2, 4), ("neverrole", 3, 5), ("kind", 1, 1))
        self.can_be(("sub", K(1), E(2)), ("sub", K(1), E(4)), ("neverrole", 2, 4), ("kind", 1, 1))
        self.can_be(("sub", K(1), E(2)), ("sub", K(1), E(3)), ("neverrole", 2, 3), ("kind", 1, 1))


class TestTheFarEnd(Case):
    def test_of_an_edge_that_nobody_told(self):
        self.cannot_be(("sub", K(1), E(2)), ("sub", E(3), K(2)), ("never", K(2), K(2)), ("kind", 1, 1))
        self.cannot_be(("sub", K(1), E(2)), ("never", E(3), E(3)), ("kind", 1, 1))
        self.can_be(("sub", K(1), E(2)), ("sub", E(3), K(2)), ("never", K(2), K(2)), ("kind", 1, 3))

    def test_two_that_are_forbidden_there(self):
        rules = [("sub", K(1), E(2)), ("sub", E(3), K(2)), ("sub", E(3), K(3)), ("never", K(3), K(2))]
        self.cannot_be(*rules, ("kind", 1, 1))
        self.can_be(*rules, ("kind", 1, 2), ("kind", 2, 3))

    def test_what_is_forbidden_here_may_be_there(self):
        self.can_be(("sub", K(1), E(2)), ("sub", E(3), K(2)), ("never", K(1), K(2)), ("kind", 1, 1))

    def test_three_edges_away(self):
        rules = [("sub", K(1), E(2)), ("sub", E(3), E(5)), ("sub", E(4), E(6)), ("sub", E(7), K(2))]
        self.cannot_be(*rules, ("never", K(2), K(2)), ("kind", 1, 1))
        self.can_be(*rules, ("never", K(2), K(1)), ("kind", 1, 1))

    def test_by_what_follows_of_the_edge(self):
        rules = [("sub", K(1), E(2)), ("role", 2, 5), ("sub", E(4), K(2)), ("never", K(2), K(2))]
        self.cannot_be(*rules, ("kind", 1, 1))
        self.can_be(*rules, ("kind", 1, 4), ("edge", 1, 3, 2))

    def test_of_a_told_edge_and_one_behind_it(self):
        rules = [("sub", E(3), E(4)), ("sub", E(5), K(2)), ("never", K(2), K(2))]
        self.cannot_be(*rules, ("edge", 1, 1, 2))
        self.can_be(*rules, ("edge", 1, 3, 2))

    def test_of_the_last_label(self):
        self.cannot_be(("sub", K(1), E(8)), ("never", E(9), E(9)), ("kind", 1, 1))
        self.cannot_be(("sub", K(1), E(9)), ("never", E(8), E(8)), ("kind", 1, 1))

    def test_round_and_round(self):
        rules = [("sub", K(1), E(2)), ("sub", E(3), K(1))]
        self.can_be(*rules, ("kind", 1, 1))
        self.can_be(*rules, ("neverrole", 2, 3), ("kind", 1, 1))
        self.cannot_be(*rules, ("never", K(1), E(3)), ("kind", 1, 1))


if __name__ == "__main__":
    unittest.main()
