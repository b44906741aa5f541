"""Promise 1 for sub, role, never, neverrole and strike."""

import unittest

from helper import K, E, NO_BASIC_ONES, TOP, ask, last, twelve


class TestBasicRules(unittest.TestCase):
    def test_answer_the_number_of_the_rule(self):
        rows = ask(("sub", K(1), E(2)), ("never", K(2), K(3)), ("sub", E(3), K(1)))
        self.assertEqual(rows, [[0], [1], [2]])

    def test_edges_of_the_ranges(self):
        for word in ("sub", "never"):
            rows = ask((word, K(1), K(6)), (word, E(2), E(9)), (word, K(6), E(2)), (word, E(9), K(1)))
            self.assertEqual(rows, [[0], [1], [2], [3]], word)

    def test_refuse_what_is_no_basic_one(self):
        for word in ("sub", "never"):
            for b in NO_BASIC_ONES:
                rows = ask((word, b, K(1)), (word, K(1), b), (word, b, b), (word, K(1), K(2)))
                self.assertEqual(rows, [[-1], [-1], [-1], [0]], (word, b))

    def test_the_same_rule_again_is_another(self):
        for word in ("sub", "never"):
            self.assertEqual(ask((word, K(1), K(2)), (word, K(1), K(2))), [[0], [1]])


class TestDirectionRules(unittest.TestCase):
    def test_answer_the_number_of_the_rule(self):
        rows = ask(("role", 2, 5), ("neverrole", 4, 4), ("role", 9, 2), ("sub", K(1), K(1)))
        self.assertEqual(rows, [[0], [1], [2], [3]])

    def test_edges_of_the_ranges(self):
        for word in ("role", "neverrole"):
            self.assertEqual(ask((word, 2, 9), (word, 9, 2), (word, 2, 2), (word, 9, 9)), [[0], [1], [2], [3]])

    def test_refuse_what_is_no_direction(self):
        for word in ("role", "neverrole"):
            for r in (0, 1, 10, TOP):
                rows = ask((word, r, 2), (word, 2, r), (word, r, r), (word, 2, 2))
                self.assertEqual(rows, [[-1], [-1], [-1], [0]], (word, r))

    def test_the_same_rule_again_is_another(self):
        for word in ("role", "neverrole"):
            self.assertEqual(ask((word, 2, 4), (word, 2, 4)), [[0], [1]])


class TestHowManyRules(unittest.TestCase):
    def test_the_twelfth_and_a_thirteenth(self):
        more = [("sub", K(3), K(4)), ("role", 3, 5), ("never", K(3), K(4)), ("neverrole", 3, 5)]
        for rule in more:
            rows = ask(*twelve(), rule, rule)
            self.assertEqual(rows, [[n] for n in range(12)] + [[-5], [-5]], rule)

    def test_a_thirteenth_changes_nothing(self):
        rows = ask(*twelve(), ("sub", K(3), K(4)), ("kind", 1, 3), ("is_so", 1, K(4)), ("strike", 11),
                   ("sub", K(3), K(4)), ("is_so", 1, K(4)))
        self.assertEqual(rows[12:], [[-5], [0], [0], [11], [11], [1]])

    def test_of_several_refusals_the_first(self):
        wrong = [("sub", K(0), K(1)), ("never", K(1), E(10)), ("role", 1, 2), ("neverrole", 2, 10)]
        self.assertEqual(ask(*twelve(), *wrong)[12:], [[-1]] * 4)

    def test_what_is_told_does_not_count(self):
        told = [("kind", x, k) for x in range(1, 8) for k in (1, 2)]
        self.assertEqual(last(*told, *twelve()), [11])


class TestStrike(unittest.TestCase):
    def test_answers_how_many_rules_there_are_then(self):
        rows = ask(*twelve(), ("strike", 11), ("strike", 0), ("strike", 5))
        self.assertEqual(rows[12:], [[11], [10], [9]])

    def test_those_behind_come_one_forward(self):
        rules = [("sub", K(1), K(2)), ("sub", K(1), K(3)), ("sub", K(1), K(4))]
        rows = ask(*rules, ("kind", 1, 1), ("strike", 0), ("who", K(2)), ("who", K(3)), ("who", K(4)),
                   ("strike", 0), ("who", K(3)), ("who", K(4)), ("role", 2, 4))
        self.assertEqual(rows[4:], [[2], [0], [1, 1], [1, 1], [1], [0], [1, 1], [1]])

    def test_it_is_the_one_with_that_number_that_goes(self):
        rules = [("sub", K(1), K(2)), ("sub", K(1), K(3)), ("sub", K(1), K(4))]
        rows = ask(*rules, ("kind", 1, 1), ("strike", 1), ("who", K(2)), ("who", K(3)), ("who", K(4)))
        self.assertEqual(rows[4:], [[2], [1, 1], [0], [1, 1]])

    def test_one_of_two_like_ones_goes(self):
        rows = ask(("sub", K(1), K(2)), ("sub", K(1), K(2)), ("kind", 1, 1), ("strike", 0), ("is_so", 1, K(2)),
                   ("strike", 0), ("is_so", 1, K(2)))
        self.assertEqual(rows[3:], [[1], [1], [0], [0]])

    def test_refuses_where_there_is_no_such_rule(self):
        self.assertEqual(last(("strike", 0)), [-2])
        for n in (1, 2, TOP):
            rows = ask(("sub", K(1), K(2)), ("strike", n), ("kind", 1, 1), ("is_so", 1, K(2)), ("strike", 0))
            self.assertEqual(rows[1:], [[-2], [0], [1], [0]], n)

    def test_what_is_told_is_not_struck(self):
        self.assertEqual(ask(("kind", 1, 1), ("strike", 0), ("who", K(1))), [[0], [-2], [1, 1]])


if __name__ == "__main__":
    unittest.main()
