"""The ranks, so far as `normally` rests on them, and the final axioms."""

import itertools
import unittest

from tests.asking import (
    ALL, NONE, A, B, C, D, both, either, firsts, holds, lacks, line, normally, only, rule, some,
)


class Table(unittest.TestCase):
    def check(self, state, table):
        for answer in firsts(*state):
            self.assertGreaterEqual(answer, 0)
        for first, second, expected in table:
            with self.subTest(first=first, second=second):
                self.assertEqual(holds(state, first, second), expected)


class Ranks(Table):
    def test_one_rule(self):
        self.check([rule(A, B)], [
            (A, B, 1), (B, A, 0), (both(A, C), B, 1), (both(A, lacks(B)), B, 0), (both(A, lacks(B)), NONE, 0),
            (lacks(B), lacks(A), 1), (ALL, either(lacks(A), B), 1), (C, either(lacks(A), B), 1), (C, B, 0),
        ])

    def test_rules_follow_one_another(self):
        self.check([rule(A, B), rule(B, C)], [(A, C, 1), (both(A, lacks(B)), C, 0), (both(A, lacks(C)), B, 0)])

    def test_more_specific_rules_win(self):
        self.check([line(B, A), rule(A, C), rule(B, lacks(C))], [
            (A, C, 1), (B, C, 0), (B, lacks(C), 1), (both(A, B), lacks(C), 1), (A, lacks(B), 1),
            (both(B, C), lacks(C), 0), (both(B, C), NONE, 0), (both(B, D), lacks(C), 1), (both(A, D), C, 1),
        ])

    def test_more_specific_by_a_rule(self):
        self.check([rule(B, A), rule(A, C), rule(B, lacks(C))], [
            (A, C, 1), (B, lacks(C), 1), (B, A, 1), (both(A, B), lacks(C), 1), (both(B, C), A, 0),
        ])

    def test_exceptions_of_exceptions(self):
        state = [line(B, A), line(D, B), rule(A, C), rule(B, lacks(C)), rule(D, C)]
        self.check(state, [
            (A, C, 1), (B, lacks(C), 1), (B, C, 0), (D, C, 1), (D, lacks(C), 0),
            (both(B, C), D, 0), (both(B, C), lacks(D), 0), (both(D, lacks(C)), NONE, 0), (A, lacks(B), 1),
            (B, lacks(D), 1), (both(A, lacks(C)), lacks(D), 1), (both(A, lacks(C)), B, 0),
        ])

    def test_four_ranks(self):
        # Each rule is an exception to the one ahead of it.
        first, second, third = A, both(A, B), both(both(A, B), C)
        state = [rule(ALL, lacks(A)), rule(first, lacks(B)), rule(second, lacks(C)), rule(third, D)]
        self.check(state, [
            (ALL, lacks(A), 1), (first, lacks(B), 1), (second, lacks(C), 1), (third, D, 1),
            (second, D, 0), (both(third, lacks(D)), NONE, 0), (B, lacks(A), 1), (C, lacks(A), 1),
            (both(A, C), lacks(B), 1), (both(A, D), lacks(B), 1), (both(third, lacks(D)), D, 0),
        ])

    def test_an_exception_loses_all_rules_of_the_lower_ranks(self):
        self.check([line(B, A), rule(A, C), rule(B, lacks(C)), rule(A, D)], [(B, D, 0), (both(A, C), D, 1)])

    def test_rules_of_a_higher_rank_hold_in_the_lower_ones_too(self):
        self.check([line(B, A), rule(A, C), rule(B, lacks(C)), rule(B, D)], [
            (B, D, 1), (A, lacks(B), 1), (both(A, B), D, 1), (D, lacks(B), 1),
        ])
        self.check([rule(ALL, lacks(A)), rule(A, B), rule(either(A, C), D)], [
            (C, D, 1), (A, B, 1), (A, D, 0), (both(C, lacks(D)), A, 0), (both(C, lacks(D)), B, 0),
        ])

    def test_what_is_exceptional_for_each_rank_has_no_rules(self):
        self.check([line(B, A), rule(A, C), rule(B, lacks(C)), rule(ALL, D)], [
            (both(B, C), D, 0), (both(B, C), C, 1), (lacks(D), A, 0), (both(A, lacks(D)), C, 0),
            (both(A, lacks(D)), lacks(B), 0), (both(B, lacks(D)), lacks(C), 1),
        ])

    def test_rank_of_a_disjunction_is_its_more_normal_part(self):
        self.check([rule(ALL, lacks(A)), rule(A, B), rule(ALL, C)], [
            (either(A, D), lacks(A), 1), (either(A, D), D, 1), (either(A, D), C, 1), (A, C, 0), (A, B, 1),
        ])

    def test_rules_that_only_together_cannot_be_satisfied(self):
        self.check([rule(A, C), rule(B, lacks(C))], [
            (A, lacks(B), 1), (B, lacks(A), 1), (both(A, B), C, 0), (both(A, B), lacks(C), 0), (both(A, B), NONE, 0),
        ])


class RanksOverRoles(Table):
    def test_only_the_element_itself_satisfies_the_rules(self):
        # Elements related to an exception are not exceptions themselves.
        self.check([rule(A, B), rule(ALL, C)], [
            (some(0, both(A, lacks(B))), C, 1), (both(A, lacks(B)), C, 0),
        ])

    def test_a_related_element_makes_an_exception(self):
        self.check([rule(A, only(0, B)), rule(ALL, C)], [
            (A, C, 1), (both(A, lacks(only(0, B))), C, 0), (A, only(0, B), 1),
        ])
        self.check([line(some(0, ALL), A), rule(A, B), rule(some(0, ALL), lacks(B))], [
            (A, B, 1), (some(0, ALL), B, 0), (some(0, ALL), lacks(B), 1), (A, only(0, NONE), 1),
        ])

    def test_rules_go_through_axioms_over_roles(self):
        self.check([line(A, some(0, B)), rule(some(0, B), C)], [(A, C, 1), (both(A, lacks(C)), NONE, 0)])
        self.check([line(B, NONE), rule(only(0, lacks(B)), C)], [(ALL, C, 1), (A, C, 1)])
        self.check([line(ALL, some(1, A)), rule(only(1, A), B), rule(some(1, A), lacks(B))], [
            (ALL, lacks(B), 1), (only(1, A), B, 1), (only(1, A), NONE, 0), (B, only(1, A), 0),
        ])


class FinalAxioms(Table):
    def test_a_rule_that_no_element_satisfies(self):
        pool = [ALL, NONE, A, lacks(A), both(A, B), some(0, A), only(1, B)]
        for first, second in itertools.product(pool, repeat=2):
            with self.subTest(first=first, second=second):
                self.assertEqual(holds([rule(ALL, NONE)], first, second), 1)

    def test_what_cannot_be_normal_cannot_be(self):
        self.check([rule(A, NONE)], [(A, NONE, 1), (A, B, 1), (B, lacks(A), 1), (B, NONE, 0), (lacks(A), B, 0)])
        self.check([rule(A, B), rule(A, lacks(B))], [(A, NONE, 1), (B, lacks(A), 1), (B, NONE, 0)])
        self.check([line(A, B), rule(A, lacks(B))], [(A, NONE, 1), (B, NONE, 0), (both(A, B), C, 1)])
        self.check([rule(A, B), rule(A, lacks(B))], [(some(0, A), NONE, 1), (ALL, only(0, lacks(A)), 1)])

    def test_the_rules_that_are_left_have_their_ranks(self):
        self.check([rule(A, NONE), rule(ALL, B), rule(lacks(C), lacks(B))], [
            (A, NONE, 1), (ALL, B, 1), (lacks(C), lacks(B), 1), (ALL, C, 1), (both(B, lacks(C)), NONE, 0),
        ])

    def test_one_is_not_enough(self):
        # Only when A can't be is it found that B can't be normal.
        self.check([rule(A, NONE), rule(B, some(0, A))], [
            (B, NONE, 1), (B, C, 1), (some(0, A), NONE, 1), (ALL, lacks(B), 1), (ALL, NONE, 0), (some(0, B), NONE, 1),
        ])

    def test_two_are_not_enough(self):
        state = [rule(A, NONE), rule(B, some(0, A)), rule(ALL, some(1, B))]
        self.check(state, [(ALL, NONE, 1), (lacks(A), B, 1)])
        self.check([state[2], state[1], state[0]], [(ALL, NONE, 1), (lacks(A), B, 1)])

    def test_a_rule_becomes_an_exception_with_the_final_axioms(self):
        # While A could be, B needed no exception to "normally related to A, or not B".
        self.check([rule(A, NONE), rule(ALL, either(lacks(B), some(0, A))), rule(B, C)], [
            (ALL, lacks(B), 1), (B, NONE, 0), (B, C, 1), (C, lacks(B), 1),
        ])

    def test_a_first_concept_that_cannot_be(self):
        self.check([line(A, NONE), rule(A, B), rule(C, B)], [(C, B, 1), (A, NONE, 1), (B, NONE, 0), (ALL, C, 0)])
        self.check([rule(NONE, A), rule(ALL, B)], [(ALL, B, 1), (C, B, 1), (lacks(B), NONE, 0)])
        self.check([rule(both(A, lacks(A)), NONE)], [(A, NONE, 0), (ALL, NONE, 0)])

    def test_final_axioms_are_computed_and_not_kept(self):
        asked = [rule(A, NONE), normally(A, NONE), line(B, A), line(B, A), line(B, A), rule(B, C), rule(C, B)]
        self.assertEqual(firsts(*asked), [0, 1, 0, 1, 2, 1, 2])
        self.assertEqual(firsts(rule(A, NONE), normally(A, NONE), rule(A, NONE), rule(B, NONE)), [0, 1, -4, 1])
        self.assertEqual(firsts(rule(A, NONE), normally(A, B), rule(A, B), normally(B, A)), [0, 1, 1, 0])


if __name__ == "__main__":
    unittest.main()
