"""How the calls lie in the one list, and the answers in the list given back."""

import unittest

from helper import K, E, TOP, NAMES, flat, fourteen, twelve
from whatmustbe.desk import answers

LONG = [*twelve(), *fourteen(), ("drop", 3), ("strike", 2), ("who", K(2)), ("is_so", 1, E(4)), ("kind", 9, 9)]


class TestTheLists(unittest.TestCase):
    def test_each_call_by_its_number(self):
        calls = [
            0, 1, 1,
            1, 1, 2, 3,
            2, 1,
            3, 0, 1, 1, 4,
            4, 4, 7,
            5, 0, 2, 0, 3,
            6, 2, 3,
            7, 3,
            8, 1, 1, 7,
            9, 0, 1,
        ]
        self.assertEqual(answers(calls), [1, 0, 1, 1, 1, 1, 1, 0, 1, 1, 1, 2, 1, 3, 1, 3, 1, 1, 2, 1, 1])

    def test_refusals_are_alone(self):
        self.assertEqual(answers([9, 0, 7, 2, 0, 0, 0, 0, 7, 0]), [1, -1, 1, -2, 1, -1, 1, -2])

    def test_who_with_its_count(self):
        self.assertEqual(answers([9, 1, 2, 0, 4, 1, 0, 2, 1, 9, 0, 1]), [1, 0, 1, 0, 1, 1, 3, 2, 2, 4])

    def test_a_single_call(self):
        self.assertEqual(answers([0, 8, 6]), [1, 0])

    def test_the_largest_number_wherever_one_stands(self):
        refused = {"drop": -2, "strike": -2}
        sizes = (2, 3, 1, 4, 2, 4, 2, 1, 3, 2)
        for number, name in enumerate(NAMES):
            calls = [number] + [TOP] * sizes[number]
            self.assertEqual(answers(calls), [1, refused.get(name, -1)], name)

    def test_sixty_calls(self):
        calls = [("sub", K(1), K(2))] * 12 + [("kind", 1, 1)] + [("who", K(2))] * 47
        given = answers(flat(calls))
        self.assertEqual(given, [n for k in range(12) for n in (1, k)] + [1, 0] + [2, 1, 1] * 47)

    def test_sixty_calls_on_a_full_desk(self):
        calls = [*twelve(), *fourteen()] + [("who", E(9))] * 34
        self.assertEqual(len(calls), 60)
        # It can't be: nodes 1 and 2 are told to be of kinds 5 and 6, which a rule forbids.
        self.assertEqual(answers(flat(calls))[52:], [9, 8, 1, 2, 3, 4, 5, 6, 7, 8] * 34)


class TestNothingIsKept(unittest.TestCase):
    def test_the_list_handed_in_is_as_it_was(self):
        calls = flat(LONG)
        before = list(calls)
        answers(calls)
        self.assertEqual(calls, before)

    def test_a_second_time_is_as_the_first(self):
        first = answers(flat(LONG))
        self.assertEqual(answers(flat(LONG)), first)
        self.assertEqual(answers([9, 0, 2]), [1, 0])

    def test_whole_numbers_in_a_list(self):
        given = answers(flat(LONG))
        self.assertIs(type(given), list)
        self.assertEqual({type(number) for number in given}, {int})


if __name__ == "__main__":
    unittest.main()
