"""Promise 2 for is and who, and what is certain where what's told can be."""

import unittest

from helper import K, E, NO_BASIC_ONES, TOP, ask, fourteen, last


class TestIs(unittest.TestCase):
    def test_what_is_told(self):
        rows = ask(("kind", 1, 1), ("kind", 8, 6), ("is_so", 1, K(1)), ("is_so", 8, K(6)), ("is_so", 1, K(6)),
                   ("is_so", 8, K(1)), ("is_so", 2, K(1)))
        self.assertEqual(rows[2:], [[1], [1], [0], [0], [0]])

    def test_the_ends_of_an_edge(self):
        told = ("edge", 1, 4, 8)
        rows = ask(told, ("is_so", 1, E(8)), ("is_so", 8, E(9)), ("is_so", 1, E(9)), ("is_so", 8, E(8)))
        self.assertEqual(rows[1:], [[1], [1], [0], [0]])

    def test_a_label_is_no_kind(self):
        rows = ask(("edge", 1, 4, 8), ("kind", 2, 4), ("who", K(4)), ("who", E(4)))
        self.assertEqual(rows[2:], [[1, 2], [0]])

    def test_nothing_is_certain_at_the_beginning(self):
        rows = ask(("is_so", 1, K(1)), ("is_so", 8, E(9)))
        self.assertEqual(rows, [[0], [0]])

    def test_refuses_what_is_no_node_or_no_basic_one(self):
        for x in (0, 9, TOP):
            self.assertEqual(last(("is_so", x, K(1))), [-1], x)
        for b in NO_BASIC_ONES:
            self.assertEqual(ask(("is_so", 1, b), ("is_so", 0, b)), [[-1], [-1]], b)

    def test_refuses_also_where_everything_is_certain(self):
        rows = ask(("kind", 1, 1), ("never", K(1), K(1)), ("is_so", 9, K(1)), ("is_so", 1, K(7)), ("is_so", 1, E(1)))
        self.assertEqual(rows[2:], [[-1], [-1], [-1]])


class TestWho(unittest.TestCase):
    def test_how_many_and_these_rising(self):
        told = [("kind", 8, 2), ("kind", 3, 2), ("kind", 1, 2), ("kind", 5, 1)]
        self.assertEqual(last(*told, ("who", K(2))), [3, 1, 3, 8])

    def test_each_node_once(self):
        told = [("edge", 7, 1, 2), ("edge", 7, 1, 3), ("edge", 1, 1, 3), ("edge", 1, 2, 3)]
        rows = ask(*told, ("who", E(2)), ("who", E(3)), ("who", E(4)), ("who", E(5)), ("who", E(6)))
        self.assertEqual(rows[4:], [[2, 1, 7], [2, 2, 3], [1, 1], [1, 3], [0]])

    def test_all_eight(self):
        told = [("kind", x, 1) for x in range(1, 9)]
        self.assertEqual(last(*told, ("who", K(1))), [8, 1, 2, 3, 4, 5, 6, 7, 8])

    def test_edges_of_the_ranges(self):
        rows = ask(*fourteen(), ("who", K(1)), ("who", K(6)), ("who", E(2)), ("who", E(9)))
        self.assertEqual(rows[14:], [[2, 1, 2], [2, 1, 2], [1, 1], [1, 8]])

    def test_refuses_what_is_no_basic_one(self):
        for b in NO_BASIC_ONES:
            self.assertEqual(last(("who", b)), [-1], b)
            self.assertEqual(last(("kind", 1, 1), ("never", K(1), K(1)), ("who", b)), [-1], b)


class TestSub(unittest.TestCase):
    def test_from_kind_to_kind_one_way(self):
        rows = ask(("sub", K(1), K(2)), ("kind", 1, 1), ("kind", 2, 2), ("who", K(1)), ("who", K(2)))
        self.assertEqual(rows[3:], [[1, 1], [2, 1, 2]])

    def test_from_kind_to_an_edge_that_nobody_told(self):
        rows = ask(("sub", K(1), E(5)), ("kind", 3, 1), ("who", E(5)), ("who", E(4)))
        self.assertEqual(rows[2:], [[1, 3], [0]])

    def test_from_an_edge_to_a_kind_forward_and_backward(self):
        told = ("edge", 1, 2, 6)
        rows = ask(("sub", E(4), K(3)), ("sub", E(5), K(4)), told, ("who", K(3)), ("who", K(4)))
        self.assertEqual(rows[3:], [[1, 1], [1, 6]])

    def test_from_an_edge_to_an_edge_says_nothing_of_where_it_leads(self):
        rows = ask(("sub", E(2), E(4)), ("edge", 1, 1, 2), ("who", E(4)), ("who", E(5)))
        self.assertEqual(rows[2:], [[1, 1], [0]])

    def test_a_chain_in_whatever_order(self):
        rules = [("sub", K(3), E(9)), ("sub", K(2), K(3)), ("sub", E(9), K(5)), ("sub", K(1), K(2))]
        rows = ask(*rules, ("kind", 7, 1), ("who", K(2)), ("who", K(3)), ("who", E(9)), ("who", K(5)), ("who", E(8)))
        self.assertEqual(rows[5:], [[1, 7], [1, 7], [1, 7], [1, 7], [0]])

    def test_a_ring(self):
        rules = [("sub", K(1), K(2)), ("sub", K(2), K(3)), ("sub", K(3), K(1)), ("sub", K(4), K(4))]
        rows = ask(*rules, ("kind", 7, 3), ("who", K(1)), ("who", K(2)), ("who", K(3)), ("who", K(4)))
        self.assertEqual(rows[5:], [[1, 7], [1, 7], [1, 7], [0]])


class TestRole(unittest.TestCase):
    def test_forward(self):
        rows = ask(("role", 2, 4), ("edge", 1, 1, 2), ("who", E(4)), ("who", E(5)), ("who", E(2)))
        self.assertEqual(rows[2:], [[1, 1], [1, 2], [1, 1]])

    def test_not_the_other_way_round(self):
        rows = ask(("role", 2, 4), ("edge", 1, 2, 2), ("who", E(2)), ("who", E(3)))
        self.assertEqual(rows[2:], [[0], [0]])

    def test_from_backward_to_backward_is_the_same(self):
        rows = ask(("role", 3, 5), ("edge", 1, 1, 2), ("who", E(4)), ("who", E(5)))
        self.assertEqual(rows[2:], [[1, 1], [1, 2]])

    def test_from_forward_to_backward(self):
        rows = ask(("role", 2, 5), ("edge", 1, 1, 2), ("who", E(5)), ("who", E(4)))
        self.assertEqual(rows[2:], [[1, 1], [1, 2]])

    def test_both_ways(self):
        rows = ask(("role", 2, 3), ("edge", 1, 1, 2), ("who", E(2)), ("who", E(3)))
        self.assertEqual(rows[2:], [[2, 1, 2], [2, 1, 2]])

    def test_a_chain_with_turns(self):
        rules = [("role", 7, 8), ("role", 4, 7), ("role", 3, 5)]
        told = ("edge", 1, 1, 2)
        rows = ask(*rules, told, ("who", E(4)), ("who", E(7)), ("who", E(8)), ("who", E(6)), ("who", E(9)))
        self.assertEqual(rows[4:], [[1, 1], [1, 1], [1, 1], [1, 2], [1, 2]])

    def test_of_an_edge_that_nobody_told(self):
        rows = ask(("sub", K(1), E(3)), ("role", 2, 4), ("sub", E(5), K(2)), ("kind", 6, 1), ("who", K(2)), ("who", E(5)))
        self.assertEqual(rows[4:], [[1, 6], [1, 6]])

    def test_with_sub_between(self):
        rules = [("role", 2, 4), ("sub", E(4), E(6)), ("role", 6, 9), ("sub", E(9), K(6))]
        rows = ask(*rules, ("edge", 1, 1, 2), ("who", K(6)), ("who", E(9)), ("who", E(8)), ("who", E(5)))
        self.assertEqual(rows[5:], [[1, 1], [1, 1], [0], [1, 2]])

    def test_of_a_node_and_itself(self):
        rows = ask(("role", 2, 4), ("edge", 8, 1, 8), ("who", E(4)), ("who", E(5)))
        self.assertEqual(rows[2:], [[1, 8], [1, 8]])


class TestTheBook(unittest.TestCase):
    """Ann (1) wrote (label 1) a book (2): authors (kind 1), publishers (2), firms (3), persons (4)."""

    RULES = [("sub", E(2), K(1)), ("sub", K(1), E(4)), ("sub", E(5), K(2)), ("sub", K(2), K(3)), ("never", K(3), K(4))]

    def test_ann_is_an_author_with_a_publisher(self):
        rows = ask(*self.RULES, ("edge", 1, 1, 2), ("who", K(1)), ("who", E(4)), ("who", K(3)))
        self.assertEqual(rows[6:], [[1, 1], [1, 1], [0]])

    def test_ann_may_be_a_firm_or_a_person_but_not_both(self):
        told = [("edge", 1, 1, 2), ("kind", 1, 3)]
        self.assertEqual(last(*self.RULES, *told, ("is_so", 2, K(6))), [0])
        self.assertEqual(last(*self.RULES, *told, ("kind", 1, 4), ("is_so", 2, K(6))), [1])

    def test_a_book_may_be_a_person(self):
        self.assertEqual(last(*self.RULES, ("edge", 1, 1, 2), ("kind", 2, 4), ("who", K(4))), [1, 2])


if __name__ == "__main__":
    unittest.main()
