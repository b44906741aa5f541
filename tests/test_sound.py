"""Sound: whether what's told can be, and the lowest node that's wrong, for each way of being wrong."""

import unittest

from helper import K, E, ask, fourteen, last


class Case(unittest.TestCase):
    def sound(self, *desk):
        self.assertEqual(last(*desk, ("sound",)), [1], desk)

    def wrong(self, x, *desk):
        self.assertEqual(last(*desk, ("sound",)), [0, x], desk)


class TestWhatCanBe(Case):
    def test_nothing_at_all(self):
        self.sound()

    def test_rules_alone(self):
        self.sound(("never", K(1), K(1)), ("never", E(2), E(2)), ("neverrole", 4, 4))

    def test_things_alone(self):
        self.sound(*fourteen())

    def test_what_is_forbidden_together_at_two_nodes(self):
        self.sound(("never", K(1), K(2)), ("neverrole", 2, 4), ("kind", 1, 1), ("kind", 2, 2), ("edge", 1, 1, 2),
                   ("edge", 2, 2, 1), ("edge", 1, 2, 3))

    def test_again_when_it_goes(self):
        desk = [("never", K(1), K(2)), ("kind", 6, 1), ("kind", 6, 2)]
        self.wrong(6, *desk)
        self.sound(*desk, ("drop", 1))
        self.sound(*desk, ("strike", 0))


class TestABadOneInTheProfile(Case):
    def test_told(self):
        self.wrong(3, ("never", K(1), K(1)), ("kind", 5, 2), ("kind", 3, 1))

    def test_that_follows(self):
        self.wrong(3, ("never", K(1), K(1)), ("sub", K(2), K(1)), ("kind", 3, 2), ("kind", 5, 2))

    def test_bad_through_others_several_deep(self):
        rules = [("sub", K(1), E(2)), ("sub", E(3), E(5)), ("sub", E(4), E(6)), ("sub", E(7), K(2)), ("sub", K(2), E(9)),
                 ("sub", E(8), K(3)), ("sub", E(8), K(4)), ("never", K(4), K(3))]
        self.wrong(7, *rules, ("kind", 7, 1))
        self.wrong(7, *rules, ("kind", 7, 2), ("kind", 8, 1), ("kind", 1, 3), ("kind", 2, 4))
        self.sound(*rules, ("kind", 1, 3), ("kind", 2, 4))

    def test_bad_by_edges_that_are_forbidden_together(self):
        self.wrong(7, ("sub", K(1), E(3)), ("role", 2, 4), ("neverrole", 5, 3), ("kind", 7, 1))
        self.sound(("sub", K(1), E(3)), ("sub", K(1), E(5)), ("neverrole", 5, 3), ("kind", 7, 1))

    def test_both_ends_of_an_edge_that_only_one_end_forbids(self):
        rules = [("never", K(1), K(1)), ("sub", E(3), K(1))]
        self.wrong(2, *rules, ("edge", 2, 1, 7))
        self.wrong(2, *rules, ("edge", 7, 1, 2))


class TestTwoThatAreForbidden(Case):
    def test_told(self):
        self.wrong(8, ("never", K(1), K(2)), ("kind", 8, 1), ("kind", 8, 2), ("kind", 1, 1), ("kind", 2, 2))

    def test_that_follow(self):
        rules = [("never", K(3), E(4)), ("sub", K(1), K(3)), ("sub", K(2), E(4))]
        self.wrong(8, *rules, ("kind", 8, 1), ("kind", 8, 2))
        self.sound(*rules, ("kind", 8, 1), ("kind", 7, 2))

    def test_only_the_node_that_is_both(self):
        self.wrong(7, ("never", E(2), E(4)), ("edge", 7, 1, 2), ("edge", 7, 2, 3))

    def test_edges_to_two_nodes_and_from_two(self):
        self.wrong(5, ("never", E(2), E(3)), ("edge", 5, 1, 1), ("edge", 2, 1, 5))
        self.wrong(5, ("never", E(3), E(2)), ("edge", 5, 1, 5))


class TestAnEdgeInABadDirection(Case):
    def test_told(self):
        for rule in (("never", E(2), E(2)), ("never", E(3), E(3)), ("neverrole", 2, 2), ("neverrole", 3, 3)):
            self.wrong(2, rule, ("edge", 7, 1, 2))
            self.wrong(2, rule, ("edge", 2, 1, 7))
            self.wrong(4, rule, ("edge", 4, 1, 4))
            self.sound(rule, ("edge", 2, 2, 7))

    def test_that_follows(self):
        self.wrong(2, ("role", 4, 7), ("never", E(6), E(6)), ("edge", 7, 2, 2))
        self.wrong(2, ("role", 4, 7), ("neverrole", 7, 7), ("edge", 2, 2, 7))
        self.sound(("role", 7, 4), ("neverrole", 7, 7), ("edge", 2, 2, 7))

    def test_bad_by_two_that_follow_of_it(self):
        self.wrong(1, ("role", 2, 4), ("role", 2, 6), ("neverrole", 4, 6), ("edge", 3, 1, 1))
        self.wrong(1, ("role", 2, 4), ("role", 2, 6), ("neverrole", 7, 5), ("edge", 3, 1, 1))
        self.sound(("role", 2, 4), ("role", 2, 6), ("neverrole", 4, 7), ("edge", 3, 1, 1))


class TestEdgesInTwoDirectionsThatAreForbidden(Case):
    def test_told(self):
        told = [("edge", 7, 1, 2), ("edge", 7, 2, 2), ("edge", 1, 1, 2), ("edge", 7, 2, 1)]
        for r, s in ((2, 4), (4, 2), (3, 5), (5, 3)):
            self.wrong(2, ("neverrole", r, s), *told)
        for r, s in ((2, 5), (5, 2), (3, 4), (2, 3)):
            self.sound(("neverrole", r, s), *told)

    def test_one_each_way(self):
        told = [("edge", 3, 1, 6), ("edge", 6, 2, 3)]
        for r, s in ((2, 5), (5, 2), (3, 4), (4, 3)):
            self.wrong(3, ("neverrole", r, s), *told)
        for r, s in ((2, 4), (3, 5)):
            self.sound(("neverrole", r, s), *told)

    def test_that_follow(self):
        rules = [("role", 2, 8), ("role", 4, 7)]
        self.wrong(1, *rules, ("neverrole", 8, 7), ("edge", 5, 1, 1), ("edge", 5, 2, 1))
        self.wrong(1, *rules, ("neverrole", 9, 6), ("edge", 5, 1, 1), ("edge", 5, 2, 1))
        self.sound(*rules, ("neverrole", 8, 7), ("edge", 5, 1, 1), ("edge", 1, 2, 5))

    def test_of_a_node_with_itself(self):
        self.wrong(4, ("neverrole", 2, 3), ("edge", 4, 1, 4))
        self.wrong(4, ("neverrole", 2, 5), ("edge", 4, 1, 4), ("edge", 4, 2, 4))
        self.sound(("neverrole", 2, 3), ("edge", 4, 1, 5))


class TestTheLowest(Case):
    def test_of_several(self):
        desk = [("never", K(1), K(1)), ("kind", 8, 1), ("kind", 3, 1), ("kind", 5, 1)]
        rows = ask(*desk, ("sound",), ("drop", 1), ("sound",), ("drop", 1), ("sound",), ("drop", 0), ("sound",))
        self.assertEqual(rows[4:], [[0, 3], [2], [0, 5], [1], [0, 8], [0], [1]])

    def test_wrong_in_several_ways(self):
        rules = [("never", K(1), K(2)), ("neverrole", 2, 4), ("never", E(6), E(6)), ("never", K(3), K(3))]
        two = [("kind", 8, 1), ("kind", 8, 2)]
        edges = [("edge", 6, 1, 7), ("edge", 6, 2, 7)]
        self.wrong(8, *rules, *two)
        self.wrong(6, *rules, *two, *edges)
        self.wrong(5, *rules, *two, *edges, ("edge", 7, 3, 5))
        self.wrong(4, *rules, *two, *edges, ("edge", 7, 3, 5), ("kind", 4, 3))


if __name__ == "__main__":
    unittest.main()
