"""Promise 3: chain and from_all."""

import unittest

from helper import K, E, EVERYBODY, TOP, ask, last


class Case(unittest.TestCase):
    def lead(self, desk, x, *rows):
        """From x each of the rows leads."""
        for row in rows:
            self.assertEqual(last(*desk, ("chain", x, list(row))), [1], row)

    def do_not_lead(self, desk, x, *rows):
        for row in rows:
            self.assertEqual(last(*desk, ("chain", x, list(row))), [0], row)


class TestOverToldNodes(Case):
    TOLD = [("edge", 1, 1, 2), ("edge", 2, 2, 3), ("edge", 4, 1, 3), ("kind", 2, 5), ("kind", 3, 6), ("kind", 1, 1)]

    def test_one_step(self):
        self.lead(self.TOLD, 1, (2, 0), (2, 5))
        self.do_not_lead(self.TOLD, 1, (2, 6), (3, 0), (4, 0), (2, 1))

    def test_backward(self):
        self.lead(self.TOLD, 2, (3, 0), (3, 1))
        self.do_not_lead(self.TOLD, 2, (2, 0), (3, 5))

    def test_several_steps(self):
        self.lead(self.TOLD, 1, (2, 0, 4, 0), (2, 5, 4, 6), (2, 5, 4, 6, 3, 0), (2, 0, 4, 6, 3, 0, 2, 6))
        self.do_not_lead(self.TOLD, 1, (2, 5, 4, 5), (2, 6, 4, 6), (4, 0, 2, 0), (2, 5, 4, 6, 3, 1), (2, 0, 4, 0, 5, 1))

    def test_there_and_back(self):
        self.lead(self.TOLD, 1, (2, 0, 3, 1), (2, 5, 3, 1, 2, 5, 4, 6))

    def test_all_ways_are_tried(self):
        told = [("edge", 1, 1, x) for x in (2, 3, 4)] + [("kind", 4, 2), ("kind", 3, 1), ("edge", 4, 2, 5)]
        self.lead(told, 1, (2, 1), (2, 2), (2, 2, 4, 0), (2, 1, 3, 0, 2, 2, 4, 0))
        self.do_not_lead(told, 1, (2, 1, 4, 0), (2, 2, 4, 1))

    def test_round_and_round(self):
        told = [("edge", 7, 3, 7), ("kind", 7, 1)]
        self.lead(told, 7, (6, 1, 7, 1, 6, 1, 6, 1))
        self.do_not_lead(told, 7, (6, 1, 7, 1, 6, 1, 6, 2))

    def test_by_rules(self):
        desk = [("role", 2, 5), ("sub", E(3), K(2)), ("edge", 1, 1, 2), ("edge", 2, 3, 3)]
        self.lead(desk, 1, (5, 2), (5, 2, 6, 0), (2, 2, 4, 0))
        self.lead(desk, 2, (4, 0, 5, 2), (3, 0))
        self.do_not_lead(desk, 1, (4, 0), (5, 1))

    def test_nothing_told(self):
        self.do_not_lead([], 1, (2, 0), (9, 6))


class TestOverNodesThatNobodyHasTold(Case):
    def test_the_book(self):
        """Ann (1) wrote (label 1) a book (2): authors are 1, publishers 2, firms 3, persons 4."""
        desk = [("sub", E(2), K(1)), ("sub", K(1), E(4)), ("sub", E(5), K(2)), ("sub", K(2), K(3)),
                ("never", K(3), K(4)), ("edge", 1, 1, 2)]
        self.lead(desk, 2, (3, 1, 4, 3), (3, 0, 4, 2), (3, 0, 4, 0, 5, 1, 2, 0))
        self.do_not_lead(desk, 2, (3, 0, 4, 4), (3, 3), (4, 0))
        self.assertEqual(last(*desk, ("kind", 1, 3), ("chain", 2, [3, 0, 4, 4])), [0])
        self.assertEqual(last(*desk, ("kind", 1, 3), ("kind", 1, 4), ("chain", 2, [3, 0, 4, 4])), [1])

    def test_out_to_one(self):
        desk = [("sub", K(1), E(2)), ("sub", E(3), K(2)), ("kind", 5, 1)]
        self.lead(desk, 5, (2, 0), (2, 2))
        self.do_not_lead(desk, 5, (2, 1), (3, 0), (2, 0, 2, 0))
        self.do_not_lead(desk, 4, (2, 0))

    def test_out_and_back(self):
        desk = [("sub", K(1), E(9)), ("kind", 5, 1), ("kind", 5, 4), ("edge", 5, 1, 6), ("kind", 6, 3)]
        self.lead(desk, 5, (9, 0, 8, 0), (9, 0, 8, 4), (9, 0, 8, 1, 2, 3), (9, 0, 8, 4, 9, 0, 8, 1))
        self.do_not_lead(desk, 5, (9, 0, 8, 3), (9, 4), (9, 1), (9, 0, 8, 2, 2, 3), (9, 0, 9, 0))
        self.lead(desk, 6, (3, 1, 9, 0, 8, 4, 2, 3))

    def test_back_to_the_very_node(self):
        desk = [("sub", K(1), E(2)), ("sub", K(2), E(2)), ("kind", 1, 1), ("kind", 2, 2)]
        self.lead(desk, 1, (2, 0, 3, 1))
        self.lead(desk, 2, (2, 0, 3, 2))
        self.do_not_lead(desk, 1, (2, 0, 3, 2))
        self.do_not_lead(desk, 2, (2, 0, 3, 1))

    def test_each_direction_has_one_of_its_own(self):
        desk = [("sub", K(1), E(2)), ("sub", K(1), E(4)), ("kind", 3, 1)]
        self.lead(desk, 3, (2, 0, 3, 0, 4, 0, 5, 1))
        self.do_not_lead(desk, 3, (2, 0, 5, 0), (4, 0, 3, 0), (2, 0, 4, 0))

    def test_the_told_one_is_not_the_own_one(self):
        desk = [("sub", K(1), E(4)), ("role", 4, 2), ("kind", 1, 1), ("edge", 1, 1, 2), ("kind", 2, 3)]
        self.lead(desk, 1, (2, 3), (4, 0), (4, 0, 3, 1, 2, 3), (2, 3, 3, 1, 4, 0))
        self.do_not_lead(desk, 1, (4, 3), (2, 3, 5, 0))

    def test_a_told_edge_where_one_is_asked_for(self):
        desk = [("sub", K(1), E(2)), ("sub", E(3), K(2)), ("kind", 1, 1), ("edge", 1, 1, 2), ("edge", 2, 2, 3)]
        self.lead(desk, 1, (2, 2, 4, 0), (2, 2, 3, 1, 2, 2, 4, 0))

    def test_in_the_directions_that_follow(self):
        desk = [("sub", K(1), E(2)), ("role", 2, 5), ("role", 5, 6), ("sub", E(7), K(6)), ("kind", 1, 1)]
        self.lead(desk, 1, (2, 6), (5, 6), (6, 6), (2, 0, 4, 1), (5, 0, 7, 1), (6, 0, 3, 1), (6, 6, 4, 1, 2, 6))
        self.do_not_lead(desk, 1, (4, 0), (3, 0), (7, 0), (2, 0, 5, 0), (6, 0, 6, 0))

    def test_what_follows_of_an_edge_does_not_lead_the_other_way_round(self):
        desk = [("sub", K(1), E(4)), ("role", 2, 4), ("kind", 1, 1)]
        self.lead(desk, 1, (4, 0, 5, 1))
        self.do_not_lead(desk, 1, (2, 0), (4, 0, 3, 0))

    def test_the_kind_of_the_one_it_came_from_is_not_its_own(self):
        desk = [("sub", K(1), E(2)), ("sub", K(1), K(2)), ("kind", 1, 1), ("kind", 1, 3)]
        self.do_not_lead(desk, 1, (2, 1), (2, 2), (2, 3))

    def test_both_ways(self):
        desk = [("sub", K(1), E(2)), ("role", 2, 3), ("kind", 1, 1)]
        self.lead(desk, 1, (2, 0, 2, 1), (3, 0, 3, 1), (2, 0, 2, 0, 2, 0, 2, 0), (3, 0, 2, 1, 3, 0, 2, 1))
        self.do_not_lead(desk, 1, (2, 1), (2, 0, 2, 1, 2, 1))

    def test_by_having_an_edge(self):
        desk = [("sub", E(3), E(5)), ("sub", E(4), K(4)), ("edge", 1, 1, 2)]
        self.lead(desk, 1, (2, 0, 5, 4), (2, 0, 5, 4, 4, 0, 3, 0))
        self.lead(desk, 2, (5, 4), (5, 0, 4, 0, 3, 0, 2, 0))
        self.do_not_lead(desk, 1, (5, 0))


class TestSeveralOneBehindAnother(Case):
    DESK = [("sub", K(1), E(2)), ("sub", E(3), K(2)), ("sub", K(2), E(5)), ("sub", E(4), K(3)), ("sub", K(3), E(6)),
            ("sub", E(7), K(4)), ("sub", K(4), E(9)), ("sub", E(8), K(5)), ("kind", 8, 1), ("edge", 7, 4, 8)]

    def test_four_out(self):
        self.lead(self.DESK, 8, (2, 2, 5, 3, 6, 4, 9, 5), (2, 0, 5, 0, 6, 0, 9, 0))
        self.do_not_lead(self.DESK, 8, (2, 2, 5, 3, 6, 4, 9, 4), (2, 3, 5, 0), (2, 2, 5, 2), (2, 0, 6, 0))

    def test_two_out_and_two_back(self):
        self.lead(self.DESK, 8, (2, 2, 5, 3, 4, 2, 3, 1), (2, 0, 5, 0, 4, 0, 3, 0))
        self.do_not_lead(self.DESK, 8, (2, 2, 5, 3, 4, 2, 3, 2), (2, 2, 5, 3, 4, 3, 3, 1), (2, 0, 5, 0, 3, 0))

    def test_out_back_and_out_again(self):
        self.lead(self.DESK, 8, (2, 2, 5, 3, 4, 2, 5, 3), (2, 2, 3, 1, 2, 2, 5, 3))

    def test_out_and_back_to_told_ones(self):
        self.lead(self.DESK, 8, (2, 2, 3, 1, 9, 0, 8, 1), (9, 0, 8, 1, 2, 2, 5, 3))
        self.lead(self.DESK, 7, (8, 1, 2, 2, 3, 1, 9, 0), (8, 1, 2, 2, 5, 3, 6, 4))

    def test_three_out_and_one_back(self):
        self.lead(self.DESK, 8, (2, 0, 5, 0, 6, 4, 7, 3))
        self.do_not_lead(self.DESK, 8, (2, 0, 5, 0, 6, 4, 7, 4), (2, 0, 5, 0, 6, 0, 4, 0))

    def test_without_end(self):
        desk = [("sub", K(1), E(2)), ("sub", E(3), K(1)), ("kind", 1, 1)]
        self.lead(desk, 1, (2, 1, 2, 1, 2, 1, 2, 1), (2, 1, 2, 1, 3, 1, 2, 1), (2, 1, 3, 1, 2, 1, 3, 1))
        self.do_not_lead(desk, 1, (3, 0), (2, 1, 3, 1, 3, 0), (2, 1, 2, 1, 2, 1, 2, 2))

    def test_own_ones_of_an_own_one_by_the_way_it_came(self):
        """The own node has one of its own, for the way back too: of the kinds that follow, but not the very one."""
        desk = [("sub", K(1), E(2)), ("sub", E(2), K(2)), ("kind", 1, 1), ("kind", 1, 3)]
        self.lead(desk, 1, (2, 0, 3, 2), (2, 0, 3, 1), (2, 0, 3, 3), (2, 0, 3, 2, 2, 0, 3, 3))


class TestFromAll(Case):
    def test_how_many_and_these_rising(self):
        told = [("edge", 8, 1, 3), ("edge", 5, 1, 3), ("edge", 1, 1, 4), ("kind", 3, 2), ("kind", 4, 1)]
        rows = ask(*told, ("from_all", [2, 0]), ("from_all", [2, 2]), ("from_all", [2, 1]), ("from_all", [3, 0]),
                   ("from_all", [2, 3]), ("from_all", [2, 2, 3, 0]), ("from_all", [3, 0, 2, 2, 3, 0, 2, 0]))
        self.assertEqual(rows[5:], [[3, 1, 5, 8], [2, 5, 8], [1, 1], [2, 3, 4], [0], [2, 5, 8], [1, 3]])

    def test_all_eight(self):
        told = [("kind", x, 1) for x in range(1, 9)]
        rows = ask(("sub", K(1), E(8)), ("sub", E(9), K(6)), *told, ("from_all", [8, 6]), ("from_all", [8, 6, 9, 1]),
                   ("from_all", [8, 1]))
        self.assertEqual(rows[10:], [EVERYBODY, EVERYBODY, [0]])

    def test_a_row_over_eight_nodes(self):
        told = [("edge", x, 1, x + 1) for x in range(1, 8)]
        rows = ask(*told, ("from_all", [2, 0]), ("from_all", [2, 0] * 4), ("from_all", [3, 0] * 3))
        self.assertEqual(rows[7:], [[7, 1, 2, 3, 4, 5, 6, 7], [4, 1, 2, 3, 4], [5, 4, 5, 6, 7, 8]])

    def test_the_same_as_chain_from_each(self):
        desk = TestSeveralOneBehindAnother.DESK
        for row in ([2, 2, 5, 3], [8, 1, 2, 2], [9, 0, 8, 1], [2, 2, 3, 1, 9, 0]):
            found = [x for x in range(1, 9) if last(*desk, ("chain", x, row)) == [1]]
            self.assertEqual(last(*desk, ("from_all", row)), [len(found)] + found)


class TestTheEdges(Case):
    def test_no_steps_lead_from_everywhere(self):
        rows = ask(("chain", 1, []), ("chain", 8, []), ("from_all", []), ("kind", 1, 1), ("chain", 1, []))
        self.assertEqual(rows, [[1], [1], EVERYBODY, [0], [1]])

    def test_four_steps_and_five(self):
        told = ("edge", 1, 1, 1)
        rows = ask(told, ("chain", 1, [2, 0] * 4), ("chain", 1, [2, 0] * 5), ("from_all", [3, 0] * 4),
                   ("from_all", [3, 0] * 5), ("chain", 1, [2, 0] * 8), ("from_all", [2, 0] * 8))
        self.assertEqual(rows[1:], [[1], [-1], [1, 1], [-1], [-1], [-1]])

    def test_a_number_left_over(self):
        for count in (1, 3, 5, 7, 9, 11, 13, 15):
            row = ([2, 0] * 8)[:count]
            rows = ask(("edge", 1, 1, 1), ("chain", 1, row), ("from_all", row), ("chain", 1, [2, 0]))
            self.assertEqual(rows[1:], [[-1], [-1], [1]], count)

    def test_every_count_of_numbers(self):
        for count in range(17):
            row = ([2, 0] * 8)[:count]
            expected = [1] if count in (0, 2, 4, 6, 8) else [-1]
            self.assertEqual(ask(("edge", 1, 1, 1), ("chain", 1, row), ("sound",))[1:], [expected, [1]], count)

    def test_directions(self):
        told = [("edge", 1, 1, 2), ("edge", 1, 4, 2)]
        for r, expected in ((2, [1]), (8, [1]), (3, [0]), (9, [0]), (0, [-1]), (1, [-1]), (10, [-1]), (TOP, [-1])):
            self.assertEqual(last(*told, ("chain", 1, [r, 0])), expected, r)
            self.assertEqual(last(*told, ("from_all", [r, 0]))[0] < 0, expected == [-1], r)
            if expected == [-1]:
                self.assertEqual(last(*told, ("chain", 1, [2, 0, 3, 0, 2, 0, r, 0])), [-1], r)
                self.assertEqual(last(*told, ("from_all", [2, 0, 3, 0, 2, 0, r, 0])), [-1], r)

    def test_kinds(self):
        told = [("edge", 1, 1, 2), ("kind", 2, 6), ("kind", 1, 6)]
        for k, expected in ((0, [1]), (6, [1]), (5, [0]), (1, [0]), (7, [-1]), (TOP, [-1])):
            self.assertEqual(last(*told, ("chain", 1, [2, k])), expected, k)
            self.assertEqual(last(*told, ("from_all", [2, k])), [1, 1] if expected == [1] else expected, k)
            self.assertEqual(last(*told, ("chain", 1, [2, 0, 3, 0, 2, 0, 3, k])), expected, k)

    def test_nodes(self):
        for x in (0, 9, TOP):
            self.assertEqual(ask(("chain", x, []), ("chain", x, [2, 0]), ("chain", x, [1])), [[-1], [-1], [-1]], x)

    def test_refused_also_behind_a_step_that_leads_nowhere(self):
        self.assertEqual(ask(("chain", 1, [2, 0, 1, 0]), ("from_all", [2, 0, 2, 7])), [[-1], [-1]])

    def test_several_at_once(self):
        self.assertEqual(ask(("chain", 9, [1, 7, 10] * 5), ("from_all", [1, 7, 10] * 5)), [[-1], [-1]])

    def test_all_is_as_it_was_after_a_refusal(self):
        rows = ask(("edge", 1, 1, 2), ("sub", E(2), K(1)), ("chain", 9, [2, 0]), ("from_all", [1, 1]),
                   ("chain", 1, [2, 0, 3, 1]), ("kind", 1, 1), ("role", 2, 4))
        self.assertEqual(rows[2:], [[-1], [-1], [1], [1], [1]])


class TestWhereWhatIsToldCannotBe(Case):
    def test_every_row_leads_from_everywhere(self):
        desk = [("never", K(1), K(2)), ("kind", 4, 1), ("kind", 4, 2)]
        rows = ask(*desk, ("chain", 4, [2, 1]), ("chain", 8, [9, 6] * 4), ("chain", 1, []), ("from_all", [5, 5]),
                   ("from_all", []), ("drop", 0), ("chain", 4, [2, 1]), ("from_all", [5, 5]))
        self.assertEqual(rows[3:], [[1], [1], [1], EVERYBODY, EVERYBODY, [1], [0], [0]])

    def test_because_of_a_node_that_nobody_has_told(self):
        desk = [("sub", K(1), E(2)), ("sub", E(3), K(2)), ("never", K(2), E(3)), ("kind", 4, 1)]
        self.assertEqual(ask(*desk, ("chain", 1, [4, 4]), ("from_all", [9, 0]))[4:], [[1], EVERYBODY])

    def test_refused_all_the_same(self):
        desk = [("never", K(1), K(1)), ("kind", 4, 1)]
        rows = ask(*desk, ("chain", 0, [2, 0]), ("chain", 1, [2]), ("from_all", [2, 7]), ("from_all", [2, 0] * 5))
        self.assertEqual(rows[2:], [[-1]] * 4)


if __name__ == "__main__":
    unittest.main()
