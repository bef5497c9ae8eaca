"""The document's examples, for the calls that there are."""

import unittest

from exceptranks.defaults import answers
from tests.asking import ALL, NONE, A, B, C, D, ask, begins, both, firsts, lacks, last, line, normally, rule

BIRDS = [line(B, A), rule(A, C), rule(B, lacks(C)), rule(A, D)]


class Examples(unittest.TestCase):
    def test_numbers_as_they_are_handed_in(self):
        calls = [1, 4, 2, 1, 2, 0, 2, 4, 2, 0, 2, 2, 2, 5, 2, 1, 5, 2, 2, 2, 4, 2, 0, 2, 3, 3, 4, 2, 0, 2, 2]
        self.assertEqual(answers(calls), [1, 0, 1, 0, 1, 1, 1, 2, 1, 1])
        self.assertEqual(answers(calls + [3, 4, 2, 1, 2, 2]), [1, 0, 1, 0, 1, 1, 1, 2, 1, 1, 1, 0])

    def test_indexes_of_the_axiom_and_the_rules(self):
        self.assertEqual(ask(*BIRDS), [[0], [0], [1], [2]])

    def test_what_normally_holds_for_birds_and_penguins(self):
        table = [
            ((2, 0, 2, 2), 1),
            ((2, 1, 2, 2), 0),
            ((2, 1, 5, 2, 2), 1),
            ((3, 2, 0, 2, 3, 2, 2), 1),
            ((3, 2, 0, 5, 2, 2, 2, 1), 0),
            ((2, 1, 2, 3), 0),
        ]
        for concepts, expected in table:
            with self.subTest(concepts=concepts):
                self.assertEqual(last(*BIRDS, normally(concepts)), expected)
        asked = [normally(concepts) for concepts, expected in table]
        self.assertEqual(firsts(*BIRDS, *asked)[4:], [expected for concepts, expected in table])

    def test_without_the_first_rule_penguins_have_wings(self):
        left = [line(B, A), rule(B, lacks(C)), rule(A, D)]
        self.assertEqual(last(*left, normally(2, 1, 2, 3)), 1)

    def test_errors(self):
        self.assertEqual(last(*BIRDS, rule(2, 1, 5, 2, 2)), -4)
        self.assertEqual(last(*BIRDS, rule(2, 0)), -1)

    def test_a_rule_that_no_element_satisfies(self):
        self.assertEqual(firsts(*BIRDS, rule(ALL, NONE), normally(2, 3, 1))[4:], [3, 1])

    def test_an_element_is_as_normal_as_it_can_be(self):
        # What has rank 2 here is no exception to any rule that is left, for none is left.
        self.assertEqual(firsts(*BIRDS, normally(both(B, C), D), normally(both(B, C), C))[4:], [0, 1])

    def test_begins_answers_nought(self):
        self.assertEqual(answers([0]), [1, 0])
        self.assertEqual(ask(*BIRDS, begins())[-1], [0])


if __name__ == "__main__":
    unittest.main()
