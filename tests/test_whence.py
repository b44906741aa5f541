"""Whence: promise 2, and the lowest number of what's told from which it follows."""

import unittest

from helper import K, E, NO_BASIC_ONES, TOP, ask, last


class TestWhence(unittest.TestCase):
    def test_what_is_told(self):
        told = [("kind", 2, 1), ("edge", 1, 4, 8), ("kind", 1, 1)]
        rows = ask(*told, ("whence", 2, K(1)), ("whence", 1, K(1)), ("whence", 1, E(8)), ("whence", 8, E(9)),
                   ("whence", 1, E(9)), ("whence", 8, E(8)), ("whence", 3, K(1)), ("whence", 2, K(2)))
        self.assertEqual(rows[3:], [[0], [2], [1], [1], [-3], [-3], [-3], [-3]])

    def test_the_lowest_of_several(self):
        desk = [("sub", K(1), K(3)), ("sub", E(2), K(3)), ("sub", E(5), K(3))]
        told = [("kind", 2, 3), ("edge", 7, 1, 1), ("kind", 1, 1), ("edge", 1, 1, 2), ("edge", 3, 2, 1), ("kind", 1, 3)]
        rows = ask(*desk, *told, ("whence", 1, K(3)), ("drop", 2), ("whence", 1, K(3)), ("drop", 2),
                   ("whence", 1, K(3)), ("drop", 2), ("whence", 1, K(3)), ("drop", 2), ("whence", 1, K(3)))
        self.assertEqual(rows[9::2], [[2], [2], [2], [2], [-3]])
        self.assertEqual(last(*desk, *reversed(told), ("whence", 1, K(3))), [0])
        self.assertEqual(last(*desk, *told, ("whence", 2, K(3))), [0])
        self.assertEqual(last(*desk, *told, ("whence", 7, K(3))), [1])

    def test_by_several_rules(self):
        rules = [("sub", K(2), E(5)), ("role", 4, 9), ("sub", E(8), K(6)), ("role", 2, 5), ("sub", K(6), K(1))]
        told = [("kind", 3, 5), ("edge", 3, 1, 4), ("kind", 3, 2)]
        rows = ask(*rules, *told, ("whence", 3, K(1)), ("whence", 3, E(8)), ("whence", 3, K(2)), ("whence", 4, E(9)),
                   ("whence", 4, K(6)), ("drop", 1), ("whence", 3, K(6)), ("whence", 4, E(9)))
        self.assertEqual(rows[8:], [[1], [1], [2], [1], [-3], [2], [1], [-3]])

    def test_an_edge_of_a_node_with_itself(self):
        rows = ask(("sub", E(3), K(1)), ("kind", 5, 2), ("edge", 5, 1, 5), ("whence", 5, E(2)), ("whence", 5, E(3)),
                   ("whence", 5, K(1)))
        self.assertEqual(rows[3:], [[1], [1], [1]])

    def test_not_at_the_far_end(self):
        rows = ask(("sub", K(1), E(2)), ("sub", E(3), K(2)), ("kind", 1, 1), ("edge", 1, 2, 2), ("whence", 1, E(2)),
                   ("whence", 1, K(2)), ("whence", 2, K(2)), ("whence", 2, E(3)))
        self.assertEqual(rows[4:], [[0], [-3], [-3], [-3]])

    def test_nothing_told(self):
        self.assertEqual(ask(("sub", K(1), K(2)), ("whence", 1, K(2)), ("whence", 8, E(9)))[1:], [[-3], [-3]])

    def test_where_what_is_told_cannot_be(self):
        desk = [("never", K(1), K(1)), ("kind", 4, 3), ("kind", 1, 1), ("kind", 1, 2)]
        rows = ask(*desk, ("sound",), ("whence", 1, K(1)), ("whence", 1, K(2)), ("whence", 1, K(3)),
                   ("whence", 4, K(1)), ("whence", 4, K(3)), ("whence", 8, E(9)))
        self.assertEqual(rows[4:], [[0, 1], [1], [2], [-3], [-3], [0], [-3]])


class TestRefusals(unittest.TestCase):
    def test_what_is_no_node_or_no_basic_one(self):
        for x in (0, 9, TOP):
            self.assertEqual(ask(("whence", x, K(1)), ("whence", x, E(10))), [[-1], [-1]], x)
        for b in NO_BASIC_ONES:
            rows = ask(("kind", 1, 1), ("whence", 1, b), ("whence", 0, b), ("whence", 8, b), ("whence", 1, K(1)))
            self.assertEqual(rows[1:], [[-1], [-1], [-1], [0]], b)

    def test_edges_of_the_ranges(self):
        told = [("kind", 1, 6), ("kind", 8, 1), ("edge", 1, 1, 8), ("edge", 8, 4, 1)]
        rows = ask(*told, ("whence", 1, K(6)), ("whence", 8, K(1)), ("whence", 1, E(2)), ("whence", 1, E(9)))
        self.assertEqual(rows[4:], [[0], [1], [2], [3]])


if __name__ == "__main__":
    unittest.main()
