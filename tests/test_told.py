"""Promise 1 for kind, edge and drop."""

import unittest

from helper import K, E, TOP, ask, fourteen, last


class TestKind(unittest.TestCase):
    def test_answers_the_number_of_what_is_told(self):
        self.assertEqual(ask(("kind", 3, 2), ("kind", 4, 2), ("kind", 3, 5)), [[0], [1], [2]])

    def test_edges_of_the_ranges(self):
        self.assertEqual(ask(("kind", 1, 1), ("kind", 8, 6), ("kind", 1, 6), ("kind", 8, 1)), [[0], [1], [2], [3]])

    def test_refuses_nodes_and_kinds_that_are_none(self):
        for x, k in ((0, 1), (9, 1), (TOP, 1), (1, 0), (1, 7), (1, TOP), (0, 0), (TOP, TOP)):
            self.assertEqual(ask(("kind", x, k), ("kind", 1, 1)), [[-1], [0]], (x, k))

    def test_refuses_what_is_told_already(self):
        rows = ask(("kind", 2, 3), ("kind", 2, 3), ("kind", 3, 2), ("kind", 2, 3))
        self.assertEqual(rows, [[0], [-4], [1], [-4]])

    def test_is_certain_then(self):
        self.assertEqual(last(("kind", 5, 6), ("who", K(6))), [1, 5])


class TestEdge(unittest.TestCase):
    def test_answers_the_number_of_what_is_told(self):
        self.assertEqual(ask(("edge", 3, 2, 4), ("kind", 3, 2), ("edge", 4, 2, 3)), [[0], [1], [2]])

    def test_edges_of_the_ranges(self):
        rows = ask(("edge", 1, 1, 8), ("edge", 8, 4, 1), ("edge", 1, 4, 1), ("edge", 8, 1, 8))
        self.assertEqual(rows, [[0], [1], [2], [3]])

    def test_refuses_nodes_and_labels_that_are_none(self):
        wrong = ((0, 1, 1), (9, 1, 1), (TOP, 1, 1), (1, 0, 1), (1, 5, 1), (1, TOP, 1), (1, 1, 0), (1, 1, 9), (1, 1, TOP))
        for x, a, y in wrong:
            self.assertEqual(ask(("edge", x, a, y), ("edge", 1, 1, 1)), [[-1], [0]], (x, a, y))

    def test_refuses_what_is_told_already(self):
        rows = ask(("edge", 1, 2, 3), ("edge", 1, 2, 3), ("edge", 3, 2, 1), ("edge", 1, 3, 3), ("edge", 1, 2, 2))
        self.assertEqual(rows, [[0], [-4], [1], [2], [3]])

    def test_is_certain_then(self):
        rows = ask(("edge", 5, 3, 7), ("who", E(6)), ("who", E(7)), ("who", E(8)))
        self.assertEqual(rows[1:], [[1, 5], [1, 7], [0]])

    def test_a_node_and_itself(self):
        rows = ask(("edge", 4, 1, 4), ("edge", 4, 1, 4), ("who", E(2)), ("who", E(3)))
        self.assertEqual(rows, [[0], [-4], [1, 4], [1, 4]])


class TestHowManyAreTold(unittest.TestCase):
    def test_the_fourteenth_and_a_fifteenth(self):
        rows = ask(*fourteen(), ("kind", 8, 1), ("edge", 2, 1, 1))
        self.assertEqual(rows, [[n] for n in range(14)] + [[-5], [-5]])

    def test_a_fifteenth_changes_nothing(self):
        rows = ask(*fourteen(), ("kind", 8, 1), ("is_so", 8, K(1)), ("drop", 13), ("kind", 8, 1), ("is_so", 8, K(1)))
        self.assertEqual(rows[14:], [[-5], [0], [13], [13], [1]])

    def test_of_several_refusals_the_first(self):
        rows = ask(*fourteen(), ("kind", 1, 1), ("edge", 1, 1, 2), ("kind", 0, 1), ("edge", 1, 5, 1))
        self.assertEqual(rows[14:], [[-4], [-4], [-1], [-1]])

    def test_rules_do_not_count(self):
        self.assertEqual(last(*[("sub", K(1), K(1))] * 12, *fourteen()), [13])


class TestDrop(unittest.TestCase):
    def test_answers_how_many_are_told_then(self):
        rows = ask(("kind", 1, 1), ("edge", 1, 1, 2), ("drop", 1), ("drop", 0))
        self.assertEqual(rows[2:], [[1], [0]])

    def test_those_behind_come_one_forward(self):
        told = [("kind", 1, 1), ("kind", 2, 1), ("kind", 3, 1)]
        rows = ask(*told, ("drop", 0), ("who", K(1)), ("drop", 0), ("who", K(1)), ("kind", 4, 1))
        self.assertEqual(rows[3:], [[2], [2, 2, 3], [1], [1, 3], [1]])

    def test_it_is_the_one_with_that_number_that_goes(self):
        told = [("kind", 1, 1), ("kind", 2, 1), ("kind", 3, 1)]
        self.assertEqual(last(*told, ("drop", 1), ("who", K(1))), [2, 1, 3])
        self.assertEqual(last(*told, ("drop", 2), ("who", K(1))), [2, 1, 2])

    def test_what_is_dropped_may_be_told_again(self):
        self.assertEqual(ask(("edge", 1, 1, 2), ("drop", 0), ("edge", 1, 1, 2)), [[0], [0], [0]])

    def test_refuses_what_is_not_told(self):
        self.assertEqual(last(("drop", 0)), [-2])
        for n in (2, 3, TOP):
            rows = ask(("kind", 1, 1), ("kind", 2, 1), ("drop", n), ("who", K(1)), ("drop", 1))
            self.assertEqual(rows[2:], [[-2], [2, 1, 2], [1]], n)

    def test_rules_are_not_dropped(self):
        self.assertEqual(ask(("sub", K(1), K(2)), ("drop", 0), ("strike", 0)), [[0], [-2], [0]])

    def test_what_followed_is_not_certain_any_more(self):
        rows = ask(("sub", K(1), E(2)), ("kind", 1, 1), ("is_so", 1, E(2)), ("drop", 0), ("is_so", 1, E(2)))
        self.assertEqual(rows[2:], [[1], [0], [0]])


if __name__ == "__main__":
    unittest.main()
