"""How the calls lie in the one list, and the answers in the list given back."""

import unittest

from helper import K, E, EVERYBODY, EVERY_DIRECTION, NAMES, TOP, ask, flat, fourteen, last, twelve
from whatmustbe.desk import answers

LONG = [
    *twelve(), *fourteen(), ("drop", 3), ("strike", 2), ("who", K(2)), ("is_so", 1, E(4)), ("kind", 9, 9),
    ("edges", 1, 2), ("chain", 1, [2, 2, 3, 1]), ("from_all", [8, 0]), ("sound",), ("follows", K(1), K(2)), ("bad",),
    ("idle", 3), ("whence", 1, E(4)), ("fewest",), ("chain", 0, [1]), ("from_all", [2, 0] * 8), ("idle", 12),
]


class TestTheLists(unittest.TestCase):
    def test_each_call_by_its_number(self):
        calls = [
            0, 1, 1,
            1, 1, 2, 3,
            2, 1,
            3, 0, 1, 1, 4,
            4, 4, 7,
            5, 0, 2, 0, 3,
            6, 2, 3,
            7, 3,
            8, 1, 1, 7,
            9, 0, 1,
        ]
        self.assertEqual(answers(calls), [1, 0, 1, 1, 1, 1, 1, 0, 1, 1, 1, 2, 1, 3, 1, 3, 1, 1, 2, 1, 1])

    def test_each_later_call_by_its_number(self):
        calls = [
            1, 1, 1, 2,
            3, 1, 3, 0, 4,
            10, 1, 2,
            11, 1, 2, 2, 4,
            12, 4, 2, 4, 3, 0,
            13,
            14, 1, 3, 0, 4,
            15,
            16, 0,
            17, 2, 0, 4,
            18,
        ]
        self.assertEqual(
            answers(calls), [1, 0, 1, 0, 2, 1, 2, 1, 1, 2, 1, 1, 1, 1, 1, 1, 1, 0, 1, 0, 1, 0, 1, 0])

    def test_a_row_with_no_numbers(self):
        self.assertEqual(answers([11, 1, 0, 12, 0, 13]), [1, 1, 9, 8, 1, 2, 3, 4, 5, 6, 7, 8, 1, 1])

    def test_a_row_with_sixteen_numbers(self):
        row = list(range(16))
        self.assertEqual(answers([11, 1, 16, *row, 13, 12, 16, *row, 13]), [1, -1, 1, 1, 1, -1, 1, 1])

    def test_a_row_with_an_odd_count_of_numbers(self):
        self.assertEqual(answers([11, 1, 3, 2, 0, 2, 13, 12, 1, 2, 13]), [1, -1, 1, 1, 1, -1, 1, 1])

    def test_refusals_are_alone(self):
        self.assertEqual(answers([9, 0, 7, 2, 0, 0, 0, 0, 7, 0]), [1, -1, 1, -2, 1, -1, 1, -2])
        self.assertEqual(answers([10, 0, 1, 11, 0, 0, 12, 1, 2, 14, 0, 0, 0, 1, 16, 0, 17, 1, 0, 1]),
                         [1, -1, 1, -1, 1, -1, 1, -1, 1, -2, 1, -3])

    def test_who_with_its_count(self):
        self.assertEqual(answers([9, 1, 2, 0, 4, 1, 0, 2, 1, 9, 0, 1]), [1, 0, 1, 0, 1, 1, 3, 2, 2, 4])

    def test_sound_bad_and_fewest_with_what_they_tell(self):
        calls = [5, 0, 3, 1, 9, 3, 1, 4, 0, 3, 3, 1, 4, 1, 9, 0, 7, 3, 1, 5, 4, 7, 13, 15, 18]
        self.assertEqual(
            answers(calls), [1, 0, 1, 1, 1, 2, 1, 0, 1, 1, 2, 0, 7, 5, 2, 1, 4, 1, 5, 2, 1, 0])

    def test_a_single_call(self):
        self.assertEqual(answers([0, 8, 6]), [1, 0])
        self.assertEqual([answers([13]), answers([15]), answers([18])], [[1, 1], [1, 0], [1, 0]])

    def test_the_largest_number_wherever_one_stands(self):
        refused = {"drop": -2, "strike": -2, "idle": -2}
        sizes = (2, 3, 1, 4, 2, 4, 2, 1, 3, 2, 2, 1, 0, 0, 4, 0, 1, 3, 0)
        for number, name in enumerate(NAMES):
            calls = [number] + [TOP] * sizes[number]
            if name in ("chain", "from_all"):
                calls += [2, TOP, TOP]
            if len(calls) > 1:
                self.assertEqual(answers(calls), [1, refused.get(name, -1)], name)

    def test_the_largest_number_in_one_place(self):
        for call in (("edges", TOP, 1), ("edges", 1, TOP), ("chain", TOP, [2, 0]), ("chain", 1, [TOP, 0]),
                     ("chain", 1, [2, TOP]), ("chain", 1, [2, 0, 2, TOP]), ("from_all", [TOP, 0]),
                     ("from_all", [2, TOP]), ("follows", (TOP, 1), K(1)), ("follows", (0, TOP), K(1)),
                     ("follows", K(1), (TOP, 1)), ("follows", K(1), (1, TOP)), ("whence", TOP, K(1)),
                     ("whence", 1, (TOP, 1)), ("whence", 1, (0, TOP))):
            self.assertEqual(last(call), [-1], call)


class TestSixtyCalls(unittest.TestCase):
    def test_who(self):
        calls = [("sub", K(1), K(2))] * 12 + [("kind", 1, 1)] + [("who", K(2))] * 47
        given = answers(flat(calls))
        self.assertEqual(given, [n for k in range(12) for n in (1, k)] + [1, 0] + [2, 1, 1] * 47)

    def test_on_a_full_desk(self):
        calls = [*twelve(), *fourteen()] + [("who", E(9))] * 34
        self.assertEqual(len(calls), 60)
        # It can't be: nodes 1 and 2 are told to be of kinds 5 and 6, which a rule forbids.
        self.assertEqual(answers(flat(calls))[52:], [9, 8, 1, 2, 3, 4, 5, 6, 7, 8] * 34)

    def test_many_of_all_where_most_has_to_go(self):
        """Two kinds of seven nodes, no two of which go together, and each of which asks for edges without end."""
        rules = [("never", K(1), K(2)), ("sub", K(1), E(2)), ("sub", K(2), E(2)), ("role", 2, 4), ("role", 4, 6),
                 ("role", 6, 8), ("role", 8, 3), ("sub", E(2), K(3)), ("sub", E(3), K(4)), ("never", K(5), K(6)),
                 ("neverrole", 3, 3), ("role", 2, 4)]
        told = [("kind", x, k) for x in range(1, 8) for k in (2, 1)]
        asked = [("fewest",), ("from_all", [2, 6] * 4), ("idle", 3), ("sound",), ("edges", 7, 8)]
        rows = ask(*rules, *told, *(asked * 7)[:34])[26:]
        expected = [[14, *range(14)], EVERYBODY, [1], [0, 1], EVERY_DIRECTION]
        self.assertEqual(rows, (expected * 7)[:34])
        rules[10] = ("sub", K(5), K(5))
        rows = ask(*rules, *told, *(asked * 7)[:34])[26:]
        expected = [[7, 0, 2, 4, 6, 8, 10, 12], EVERYBODY, [1], [0, 1], EVERY_DIRECTION]
        self.assertEqual(rows, (expected * 7)[:34])

    def test_many_rows_of_steps_where_everything_leads_everywhere(self):
        rules = [("role", 2, 4), ("role", 4, 6), ("role", 6, 8), ("role", 8, 3), ("sub", E(2), K(1))]
        told = [("edge", x, 1, x % 8 + 1) for x in range(1, 9)] + [("kind", x, 2) for x in range(1, 7)]
        asked = [("from_all", [9, 1] * 4), ("from_all", [7, 0, 4, 1, 5, 0, 2, 6]), ("from_all", [2, 2] * 4)]
        rows = ask(*rules, *told, *(asked * 14)[:41])[19:]
        self.assertEqual(rows, ([EVERYBODY, [0], EVERYBODY] * 14)[:41])

    def test_many_that_change_the_desk(self):
        turn = [("kind", 1, 1), ("never", K(1), E(2)), ("edge", 1, 1, 2), ("fewest",), ("drop", 0), ("strike", 0)]
        # Each turn leaves one of the two things told, the one that is told first in the next turn.
        edge_left = [[0], [0], [1], [1, 0], [1], [0]]
        kind_left = [[1], [0], [-4], [1, 0], [1], [0]]
        edge_left_again = [[-4], [0], [1], [1, 0], [1], [0]]
        self.assertEqual(ask(*turn * 10), edge_left + (kind_left + edge_left_again) * 4 + kind_left)


class TestNothingIsKept(unittest.TestCase):
    def test_the_list_handed_in_is_as_it_was(self):
        calls = flat(LONG)
        before = list(calls)
        answers(calls)
        self.assertEqual(calls, before)

    def test_a_second_time_is_as_the_first(self):
        first = answers(flat(LONG))
        self.assertEqual(answers(flat(LONG)), first)
        self.assertEqual(answers([9, 0, 2]), [1, 0])
        self.assertEqual(answers([13, 15, 18, 12, 2, 2, 0]), [1, 1, 1, 0, 1, 0, 1, 0])

    def test_whole_numbers_in_a_list(self):
        given = answers(flat(LONG))
        self.assertIs(type(given), list)
        self.assertEqual({type(number) for number in given}, {int})

    def test_asking_changes_nothing(self):
        desk = [("kind", 1, 1), ("edge", 1, 1, 2), ("sub", K(1), K(2)), ("never", K(2), E(3))]
        asked = [("edges", 1, 2), ("chain", 1, [2, 0]), ("from_all", [3, 2]), ("sound",), ("follows", K(1), K(2)),
                 ("bad",), ("idle", 0), ("whence", 1, K(2)), ("fewest",), ("whence", 3, K(2)), ("chain", 1, [2]),
                 ("idle", 2), ("edges", 0, 0), ("from_all", [1, 0]), ("follows", K(0), K(1))]
        once = ask(*desk, *asked)[4:]
        self.assertEqual(ask(*desk, *asked, *asked)[4:], once * 2)
        self.assertEqual(ask(*desk, *asked, ("kind", 8, 1), ("role", 2, 4))[-2:], [[2], [2]])


if __name__ == "__main__":
    unittest.main()
