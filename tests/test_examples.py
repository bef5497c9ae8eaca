"""The document's examples, each row of them, in their order."""

import unittest

from exceptranks.defaults import answers
from tests.asking import (
    ALL, NONE, A, B, C, D, always, ask, begins, both, drop, firsts, lacks, last, line, normally, rank, ranks, rule,
)

BIRDS = [line(B, A), rule(A, C), rule(B, lacks(C)), rule(A, D)]

EXAMPLES = [
    (normally(2, 0, 2, 2), [1]),
    (normally(2, 1, 2, 2), [0]),
    (normally(2, 1, 5, 2, 2), [1]),
    (normally(3, 2, 0, 2, 3, 2, 2), [1]),
    (normally(3, 2, 0, 5, 2, 2, 2, 1), [0]),
    (normally(2, 1, 2, 3), [0]),
    (rank(2, 0), [0, 2]),
    (rank(2, 1), [1, 2]),
    (rank(3, 2, 1, 2, 2), [2, 2]),
    (rank(1), [2, 2]),
    (ranks(), [2, 1, 2, 1]),
    (always(2, 1, 2, 2), [0]),
    (drop(0), [2]),
    (normally(2, 1, 2, 3), [1]),
    (ranks(), [1, 1, 1]),
    (rule(2, 1, 5, 2, 2), [-4]),
    (rule(0, 1), [2]),
    (normally(2, 3, 1), [1]),
    (ranks(), [0, 0, 0, 0]),
    (rule(2, 0), [-1]),
    (drop(9), [-2]),
]

RULE = 2
DROP = 7


class Examples(unittest.TestCase):
    def test_numbers_as_they_are_handed_in(self):
        calls = [1, 4, 2, 1, 2, 0, 2, 4, 2, 0, 2, 2, 2, 5, 2, 1, 5, 2, 2, 2, 4, 2, 0, 2, 3, 3, 4, 2, 0, 2, 2]
        self.assertEqual(answers(calls), [1, 0, 1, 0, 1, 1, 1, 2, 1, 1])
        self.assertEqual(answers(calls + [3, 4, 2, 1, 2, 2]), [1, 0, 1, 0, 1, 1, 1, 2, 1, 1, 1, 0])
        asked = [5, 5, 3, 2, 1, 2, 2, 6, 4, 4, 2, 1, 2, 2, 7, 0, 6, 2, 2, 0, 1, 6, 7, 9]
        self.assertEqual(answers(calls + asked)[10:], [
            2, 2, 2, 4, 2, 1, 2, 1, 1, 0, 1, 2, 3, 1, 1, 1, 1, 2, 4, 0, 0, 0, 0, 1, -2,
        ])

    def test_indexes_of_the_axiom_and_the_rules(self):
        self.assertEqual(ask(*BIRDS), [[0], [0], [1], [2]])

    def test_all_rows_in_their_order(self):
        self.assertEqual(len(EXAMPLES), 21)
        asked = [call for call, answer in EXAMPLES]
        self.assertEqual(ask(*BIRDS, *asked)[4:], [answer for call, answer in EXAMPLES])

    def test_each_row_by_itself(self):
        # Within the limits of a request: only what changes something goes ahead of the row.
        changes = []
        for call, answer in EXAMPLES:
            with self.subTest(call=call, changes=changes):
                self.assertEqual(ask(*BIRDS, *changes, call)[-1], answer)
            if call[0] in (RULE, DROP):
                changes.append(call)

    def test_without_the_first_rule_penguins_have_wings(self):
        left = [line(B, A), rule(B, lacks(C)), rule(A, D)]
        self.assertEqual(last(*left, normally(2, 1, 2, 3)), 1)

    def test_errors(self):
        self.assertEqual(last(*BIRDS, rule(2, 1, 5, 2, 2)), -4)
        self.assertEqual(last(*BIRDS, rule(2, 0)), -1)
        self.assertEqual(last(*BIRDS, drop(9)), -2)

    def test_a_rule_that_no_element_satisfies(self):
        self.assertEqual(firsts(*BIRDS, rule(ALL, NONE), normally(2, 3, 1))[4:], [3, 1])

    def test_an_element_is_as_normal_as_it_can_be(self):
        # What has rank 2 here is no exception to any rule that is left, for none is left.
        self.assertEqual(firsts(*BIRDS, normally(both(B, C), D), normally(both(B, C), C))[4:], [0, 1])

    def test_begins_answers_nought(self):
        self.assertEqual(answers([0]), [1, 0])
        self.assertEqual(ask(*BIRDS, begins())[-1], [0])


if __name__ == "__main__":
    unittest.main()
