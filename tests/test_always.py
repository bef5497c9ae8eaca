"""What always holds: what is subsumed with the final axioms, whatever the other rules say."""

import itertools
import unittest

from tests.asking import (
    ALL, NONE, A, B, C, D, always, ask, both, either, firsts, lacks, last, line, normally, only, ranks, rule, some,
)


class Table(unittest.TestCase):
    def check(self, state, table):
        for answer in firsts(*state):
            self.assertGreaterEqual(answer, 0)
        for first, second, expected in table:
            with self.subTest(first=first, second=second):
                self.assertEqual(ask(*state, always(first, second))[-1], [expected])


class WithGivenAxioms(Table):
    def test_without_axioms(self):
        self.check([], [
            (A, A, 1), (A, B, 0), (A, ALL, 1), (NONE, A, 1), (ALL, NONE, 0), (both(A, B), A, 1), (A, both(A, B), 0),
            (A, either(A, B), 1), (both(A, lacks(A)), NONE, 1), (A, lacks(A), 0), (ALL, either(A, lacks(A)), 1),
            (some(0, both(A, B)), some(0, A), 1), (some(0, A), some(1, A), 0), (only(0, NONE), only(0, A), 1),
            (both(only(0, A), some(0, ALL)), some(0, A), 1),
        ])

    def test_axioms_always_hold(self):
        self.check([line(B, A), line(A, C)], [
            (B, A, 1), (A, B, 0), (B, C, 1), (C, B, 0), (lacks(C), lacks(B), 1), (some(0, B), lacks(C), 0),
            (both(B, lacks(C)), NONE, 1), (B, NONE, 0),
        ])
        self.check([line(A, NONE)], [(A, D, 1), (some(0, A), NONE, 1), (ALL, only(1, lacks(A)), 1), (B, NONE, 0)])
        self.check([line(A, B)], [(some(0, A), some(0, B), 1), (some(0, B), some(0, A), 0)])
        self.check([line(A, some(0, B)), line(some(0, B), lacks(B))], [(A, lacks(B), 1), (lacks(B), A, 0)])

    def test_rules_do_not_always_hold(self):
        self.check([rule(A, B)], [(A, B, 0), (A, A, 1), (both(A, lacks(B)), NONE, 0), (B, A, 0)])
        self.check([line(B, A), rule(A, C), rule(B, lacks(C)), rule(A, D)], [
            (A, C, 0), (B, C, 0), (B, lacks(C), 0), (B, A, 1), (A, lacks(B), 0), (both(B, C), NONE, 0),
        ])
        self.check([rule(ALL, A), rule(lacks(A), B)], [(ALL, A, 0), (lacks(A), B, 0), (lacks(A), NONE, 0)])

    def test_without_rules_it_is_what_normally_holds(self):
        state = [line(A, B), line(some(0, A), A)]
        concepts = [ALL, NONE, A, B, lacks(A), both(A, B), some(0, A), only(0, lacks(A)), both(A, some(0, A))]
        for first, second in itertools.product(concepts, repeat=2):
            with self.subTest(first=first, second=second):
                asked = firsts(*state, always(first, second), normally(first, second))
                self.assertEqual(asked[2], asked[3])


class WithAddedAxioms(Table):
    def test_rules_that_no_element_satisfies(self):
        self.check([rule(ALL, NONE)], [(ALL, NONE, 1), (A, B, 1), (some(0, A), only(1, B), 1)])
        self.check([rule(A, NONE)], [(A, NONE, 1), (A, D, 1), (B, lacks(A), 1), (B, NONE, 0), (ALL, A, 0)])
        self.check([rule(A, B), rule(A, lacks(B))], [(A, NONE, 1), (B, lacks(A), 1), (B, NONE, 0)])
        self.check([line(A, B), rule(A, lacks(B))], [(A, NONE, 1), (A, D, 1), (B, NONE, 0)])

    def test_added_axioms_hold_for_related_elements(self):
        self.check([rule(A, NONE)], [
            (some(0, A), NONE, 1), (some(1, some(0, A)), NONE, 1), (ALL, only(0, lacks(A)), 1), (some(0, B), NONE, 0),
        ])

    def test_added_axioms_stand_beside_the_given_ones(self):
        self.check([line(B, A), line(C, some(0, B)), rule(A, NONE)], [
            (B, NONE, 1), (C, NONE, 1), (ALL, lacks(either(A, either(B, C))), 1), (ALL, NONE, 0),
        ])

    def test_axioms_are_added_again_and_again(self):
        first, second, third = both(A, B), both(A, lacks(B)), both(lacks(A), B)
        rules = [rule(first, NONE), rule(second, some(0, first)), rule(third, some(0, second))]
        for ordered in itertools.permutations(rules):
            self.check(list(ordered), [
                (first, NONE, 1), (second, NONE, 1), (third, NONE, 1), (ALL, NONE, 0), (either(A, B), NONE, 1),
            ])
        self.check(rules[1:], [(second, NONE, 0), (third, NONE, 0), (third, some(0, second), 0)])

    def test_rules_that_are_left_do_not_always_hold(self):
        self.check([rule(A, NONE), rule(B, C), rule(ALL, lacks(C))], [
            (A, NONE, 1), (B, C, 0), (ALL, lacks(C), 0), (B, NONE, 0), (B, lacks(A), 1),
        ])

    def test_with_the_rule_of_the_examples(self):
        state = [line(B, A), rule(B, lacks(C)), rule(A, D), rule(ALL, NONE)]
        self.assertEqual(ask(*state, normally(D, NONE), always(D, NONE), ranks())[4:], [[1], [1], [0, 0, 0, 0]])

    def test_added_axioms_take_no_place(self):
        state = [line(B, C), line(C, D), rule(A, NONE)]
        self.assertEqual(firsts(*state, always(A, NONE), line(D, B), line(A, B), rule(A, B))[3:], [1, 2, -7, 1])

    def test_an_added_axiom_goes_with_its_rule(self):
        state = [rule(A, B), rule(A, lacks(B))]
        self.assertEqual(firsts(*state, always(A, NONE), [7, 0], always(A, NONE), normally(A, B))[2:], [1, 1, 0, 0])


class AnswersAreOneNumber(unittest.TestCase):
    def test_one_or_nought(self):
        self.assertEqual(ask(always(A, A), always(A, B), always(0, 0), always(1, 0), always(0, 1)), [
            [1], [0], [1], [1], [0],
        ])

    def test_as_many_numbers_as_may_be(self):
        self.assertEqual(last(always((5,) * 28, 0, 0)), 1)
        self.assertEqual(last(always((5,) * 27, 0, 1)), 1)
        self.assertEqual(last(always((5,) * 28, 0, 1)), 0)
        self.assertEqual(last(always(0, (5,) * 27, 0)), 0)


if __name__ == "__main__":
    unittest.main()
