"""Follows, bad and idle: what holds whatever is told. Promise 2 for follows, promise 1 for idle."""

import unittest

from helper import ALL_BASIC, K, E, NO_BASIC_ONES, TOP, ask, last, twelve


class TestFollows(unittest.TestCase):
    def follow(self, rules, b, *ones):
        """Just these follow of b."""
        found = [c for c in ALL_BASIC if last(*rules, ("follows", b, c)) == [1]]
        self.assertEqual(found, list(ones))

    def test_itself_alone(self):
        for b in ALL_BASIC:
            self.follow([], b, b)

    def test_by_one_rule(self):
        rules = [("sub", K(1), E(9))]
        self.follow(rules, K(1), K(1), E(9))
        self.follow(rules, E(9), E(9))
        self.follow(rules, E(8), E(8))

    def test_by_several_rules(self):
        rules = [("sub", E(6), K(5)), ("role", 5, 6), ("sub", K(2), E(5)), ("sub", K(1), K(2))]
        self.follow(rules, K(1), K(1), K(2), K(5), E(5), E(6))
        self.follow(rules, E(5), K(5), E(5), E(6))
        self.follow(rules, E(4), E(4), E(7))

    def test_by_a_role_seen_from_the_other_end(self):
        self.follow([("role", 2, 4), ("role", 5, 8)], E(3), E(3), E(5), E(8))
        self.follow([("role", 2, 4), ("role", 5, 8)], E(2), E(2), E(4), E(9))

    def test_whoever_is_at_the_far_end_is_another(self):
        self.follow([("sub", K(1), E(2)), ("sub", E(3), K(2))], K(1), K(1), E(2))

    def test_of_a_bad_one_all(self):
        rules = [("never", K(3), K(3)), ("sub", E(3), K(3)), ("sub", K(1), E(2))]
        for b in (K(1), K(3), E(2), E(3)):
            self.follow(rules, b, *ALL_BASIC)
        for b in (K(2), E(4), E(5)):
            self.follow(rules, b, b)

    def test_of_one_bad_by_two_that_follow(self):
        rules = [("never", K(3), K(4)), ("sub", K(1), K(3)), ("sub", K(1), K(4)), ("sub", K(2), K(3))]
        self.follow(rules, K(1), *ALL_BASIC)
        self.follow(rules, K(2), K(2), K(3))

    def test_whatever_is_told(self):
        desk = [("sub", K(1), K(2)), ("never", K(5), K(5)), ("kind", 1, 5), ("kind", 2, 3), ("kind", 2, 4)]
        rows = ask(*desk, ("sound",), ("follows", K(1), K(2)), ("follows", K(2), K(1)), ("follows", K(3), K(4)),
                   ("follows", K(5), K(1)))
        self.assertEqual(rows[5:], [[0, 1], [1], [0], [0], [1]])

    def test_refuses_what_is_no_basic_one(self):
        for b in NO_BASIC_ONES:
            rows = ask(("follows", b, K(1)), ("follows", E(2), b), ("follows", b, b), ("follows", E(9), E(9)))
            self.assertEqual(rows, [[-1], [-1], [-1], [1]], b)
            rows = ask(("kind", 1, 1), ("never", K(1), K(1)), ("follows", K(1), b), ("follows", b, K(1)))
            self.assertEqual(rows[2:], [[-1], [-1]], b)


class TestBad(unittest.TestCase):
    def bad(self, rules, *ones):
        expected = [len(ones)]
        for b in ones:
            expected.extend(b)
        self.assertEqual(last(*rules, ("bad",)), expected)

    def test_none_where_nothing_is_forbidden(self):
        self.bad([])
        self.bad([("sub", K(1), E(2)), ("role", 2, 3), ("never", K(1), K(2))])

    def test_one_twice(self):
        self.bad([("never", K(6), K(6)), ("never", K(1), K(1))], K(1), K(6))

    def test_both_directions_of_a_label(self):
        self.bad([("never", E(9), E(9))], E(8), E(9))
        self.bad([("never", E(2), E(2))], E(2), E(3))
        self.bad([("neverrole", 8, 8), ("neverrole", 3, 3)], E(2), E(3), E(8), E(9))

    def test_what_leads_to_bad_ones(self):
        rules = [("never", K(3), K(3)), ("sub", E(5), K(3)), ("sub", K(6), E(4)), ("role", 9, 5), ("sub", K(3), K(2))]
        self.bad(rules, K(3), K(6), E(4), E(5), E(8), E(9))

    def test_two_of_which_one_does_not_follow(self):
        self.bad([("never", K(1), K(2)), ("sub", K(3), K(1)), ("neverrole", 2, 4)])
        self.bad([("neverrole", 2, 4), ("role", 3, 5)], E(2), E(3))
        self.bad([("neverrole", 2, 4), ("sub", E(2), E(4))])

    def test_through_others_several_deep(self):
        rules = [("sub", K(1), E(2)), ("sub", E(3), E(5)), ("sub", E(4), E(6)), ("sub", E(7), K(2)), ("sub", K(2), E(9)),
                 ("sub", E(8), K(3)), ("sub", E(8), K(4))]
        self.bad(rules)
        self.bad([*rules, ("never", K(4), K(3))], K(1), K(2), *[E(r) for r in range(2, 10)])

    def test_every_one(self):
        rules = [("never", K(1), K(1))] + [("sub", K(k), K(1)) for k in range(2, 7)]
        rules += [("never", E(r), E(r)) for r in (2, 5, 6, 9)]
        self.bad(rules, *ALL_BASIC)

    def test_whatever_is_told(self):
        self.bad([("never", K(2), K(3)), ("kind", 1, 2), ("kind", 1, 3)])
        self.bad([("never", K(2), K(2)), ("kind", 1, 3)], K(2))


class TestIdle(unittest.TestCase):
    def idle(self, rule, *others):
        """The rule is idle for the others, wherever it stands among them."""
        for n in range(len(others) + 1):
            self.assertEqual(last(*others[:n], rule, *others[n:], ("idle", n)), [1], (rule, others, n))

    def not_idle(self, rule, *others):
        for n in range(len(others) + 1):
            self.assertEqual(last(*others[:n], rule, *others[n:], ("idle", n)), [0], (rule, others, n))

    def test_alone(self):
        for rule in (("sub", K(1), E(2)), ("role", 2, 4), ("never", K(1), K(2)), ("neverrole", 2, 4),
                     ("never", K(1), K(1)), ("neverrole", 2, 2), ("role", 2, 3), ("sub", E(2), E(3))):
            self.not_idle(rule)

    def test_what_says_nothing(self):
        self.idle(("sub", K(1), K(1)))
        self.idle(("sub", E(9), E(9)))
        self.idle(("role", 5, 5))

    def test_the_same_twice(self):
        for rule in (("sub", K(1), E(2)), ("role", 2, 5), ("never", K(1), E(2)), ("neverrole", 2, 5)):
            rows = ask(rule, rule, ("idle", 0), ("idle", 1), ("strike", 0), ("idle", 0))
            self.assertEqual(rows[2:], [[1], [1], [1], [0]], rule)

    def test_sub_by_others(self):
        self.idle(("sub", K(1), K(3)), ("sub", K(2), K(3)), ("sub", K(1), K(2)))
        self.idle(("sub", K(1), E(4)), ("role", 2, 4), ("sub", K(1), E(2)))
        self.idle(("sub", E(3), E(5)), ("role", 2, 4))
        self.not_idle(("sub", K(3), K(1)), ("sub", K(2), K(3)), ("sub", K(1), K(2)))
        self.not_idle(("sub", E(2), E(5)), ("role", 2, 4))

    def test_sub_of_a_bad_one(self):
        self.idle(("sub", K(1), K(6)), ("sub", K(1), E(2)), ("never", E(3), E(3)))
        self.not_idle(("sub", K(6), K(1)), ("sub", K(1), E(2)), ("never", E(3), E(3)))

    def test_role_by_others(self):
        self.idle(("role", 2, 6), ("role", 4, 6), ("role", 2, 4))
        self.idle(("role", 3, 5), ("role", 2, 4))
        self.idle(("role", 5, 2), ("role", 4, 7), ("role", 6, 2), ("role", 2, 3))
        self.not_idle(("role", 4, 2), ("role", 2, 4))
        self.not_idle(("role", 2, 4), ("sub", E(2), E(4)), ("sub", E(3), E(5)))

    def test_role_of_a_bad_direction(self):
        self.idle(("role", 2, 9), ("neverrole", 3, 3))
        self.idle(("role", 2, 9), ("never", K(1), E(3)), ("sub", E(3), K(1)))
        self.not_idle(("role", 9, 2), ("neverrole", 3, 3))

    def test_never_by_others(self):
        self.idle(("never", K(1), K(2)), ("never", K(2), K(1)))
        self.idle(("never", K(1), K(2)), ("sub", K(1), K(3)), ("sub", K(2), K(4)), ("never", K(4), K(3)))
        self.idle(("never", K(1), E(2)), ("never", E(4), K(1)), ("role", 2, 4))
        self.not_idle(("never", K(3), K(4)), ("sub", K(1), K(3)), ("sub", K(2), K(4)), ("never", K(1), K(2)))
        self.not_idle(("never", E(2), E(4)), ("never", E(3), E(5)))

    def test_never_says_more_than_neverrole(self):
        self.not_idle(("never", E(2), E(4)), ("neverrole", 2, 4))
        self.not_idle(("never", E(2), E(3)), ("neverrole", 2, 3))
        self.idle(("never", E(2), E(2)), ("neverrole", 2, 2))
        self.idle(("never", E(3), E(3)), ("neverrole", 2, 2))

    def test_never_of_a_bad_one(self):
        self.idle(("never", K(1), K(2)), ("never", K(2), K(2)))
        self.idle(("never", K(1), K(1)), ("sub", K(1), E(2)), ("never", E(3), E(3)))
        self.idle(("never", K(5), E(2)), ("neverrole", 3, 3))
        self.not_idle(("never", K(2), K(2)), ("never", K(1), K(2)))

    def test_neverrole_by_others(self):
        self.idle(("neverrole", 2, 4), ("neverrole", 4, 2))
        self.idle(("neverrole", 2, 4), ("neverrole", 3, 5))
        self.idle(("neverrole", 2, 4), ("role", 2, 6), ("role", 5, 8), ("neverrole", 9, 6))
        self.not_idle(("neverrole", 2, 4), ("neverrole", 2, 5))
        self.not_idle(("neverrole", 6, 9), ("role", 2, 6), ("role", 5, 8), ("neverrole", 2, 4))

    def test_neverrole_by_what_the_ends_are(self):
        self.idle(("neverrole", 2, 4), ("never", E(2), E(4)))
        self.idle(("neverrole", 2, 4), ("never", E(3), E(5)))
        self.idle(("neverrole", 2, 4), ("sub", E(3), K(1)), ("sub", E(5), K(2)), ("never", K(1), K(2)))
        self.not_idle(("neverrole", 2, 4), ("never", E(2), E(5)))
        self.not_idle(("neverrole", 2, 4), ("sub", E(3), K(1)), ("sub", E(4), K(2)), ("never", K(1), K(2)))

    def test_neverrole_of_a_bad_direction(self):
        self.idle(("neverrole", 2, 4), ("neverrole", 3, 3))
        self.idle(("neverrole", 2, 2), ("sub", E(3), K(1)), ("never", K(1), K(1)))
        self.not_idle(("neverrole", 3, 3), ("neverrole", 2, 4))

    def test_a_rule_does_not_keep_itself(self):
        self.not_idle(("never", K(1), K(1)), ("sub", K(2), K(1)), ("never", K(2), K(2)))
        self.idle(("never", K(2), K(2)), ("sub", K(2), K(1)), ("never", K(1), K(1)))

    def test_whatever_is_told(self):
        desk = [("kind", 1, 1), ("kind", 1, 2), ("never", K(1), K(2)), ("sub", K(1), K(3)), ("sub", K(1), K(1))]
        self.assertEqual(ask(*desk, ("sound",), ("idle", 0), ("idle", 1), ("idle", 2))[5:], [[0, 1], [0], [0], [1]])

    def test_twelve_rules(self):
        rows = ask(*twelve(), *[("idle", n) for n in range(13)])
        self.assertEqual(rows[12:], [[1]] * 12 + [[-2]])

    def test_twelve_in_a_row(self):
        rules = [("sub", K(k), K(k + 1)) for k in range(1, 6)] + [("role", r, r + 2) for r in (2, 4, 6)]
        rules += [("sub", K(1), K(6)), ("role", 3, 9), ("sub", K(6), K(1)), ("role", 9, 3)]
        rows = ask(*rules, *[("idle", n) for n in range(12)])
        self.assertEqual(rows[12:], [[0]] * 8 + [[1], [1], [0], [0]])

    def test_refuses_where_there_is_no_such_rule(self):
        self.assertEqual(last(("idle", 0)), [-2])
        for n in (1, 2, TOP):
            rows = ask(("kind", 1, 1), ("kind", 1, 2), ("sub", K(1), K(1)), ("idle", n), ("idle", 0))
            self.assertEqual(rows[3:], [[-2], [1]], n)

    def test_changes_nothing(self):
        rows = ask(("sub", K(1), K(2)), ("kind", 1, 1), ("idle", 0), ("is_so", 1, K(2)), ("sub", K(1), K(2)),
                   ("idle", 0), ("idle", 1), ("idle", 2), ("strike", 1))
        self.assertEqual(rows[2:], [[0], [1], [1], [1], [1], [-2], [1]])


if __name__ == "__main__":
    unittest.main()
