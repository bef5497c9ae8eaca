"""The calls `rank` and `ranks`."""

import itertools
import unittest

from tests.asking import (
    ALL, NONE, A, B, C, D, ask, begins, both, drop, either, lacks, line, normally, only, rank, ranks, rule, some,
)

BIRDS = [line(B, A), rule(A, C), rule(B, lacks(C)), rule(A, D)]
TWO = both(A, B)
THREE = both(TWO, C)
# Each rule is an exception to the one ahead of it.
CHAIN = [rule(ALL, lacks(A)), rule(A, lacks(B)), rule(TWO, lacks(C)), rule(THREE, D)]


class RankOfAConcept(unittest.TestCase):
    def check(self, state, amount, table):
        for concept, expected in table:
            with self.subTest(state=state, concept=concept):
                self.assertEqual(ask(*state, rank(concept))[-1], [expected, amount])

    def test_without_rules(self):
        for state in ([], [line(A, B)], [line(ALL, NONE)], [line(A, some(0, A)), line(B, NONE)]):
            self.check(state, 0, [
                (ALL, 0), (NONE, 0), (A, 0), (both(A, lacks(A)), 0), (some(0, A), 0), (only(1, B), 0),
            ])

    def test_one_rule(self):
        self.check([rule(A, B)], 1, [
            (ALL, 0), (A, 0), (B, 0), (both(A, B), 0), (both(A, lacks(B)), 1), (lacks(A), 0), (lacks(B), 0),
            (NONE, 1), (both(A, lacks(A)), 1), (C, 0), (some(0, both(A, lacks(B))), 0),
        ])

    def test_birds_and_penguins(self):
        self.check(BIRDS, 2, [
            (ALL, 0), (A, 0), (B, 1), (both(A, B), 1), (both(A, lacks(C)), 1), (both(A, lacks(D)), 1),
            (both(B, C), 2), (both(B, lacks(C)), 1), (C, 0), (D, 0), (NONE, 2), (lacks(A), 0),
            (both(A, both(C, D)), 0), (both(B, lacks(A)), 2), (both(B, lacks(D)), 1),
        ])

    def test_four_ranks(self):
        self.check(CHAIN, 4, [
            (ALL, 0), (A, 1), (TWO, 2), (THREE, 3), (both(THREE, lacks(D)), 4), (NONE, 4), (B, 0), (C, 0),
            (both(A, C), 1), (lacks(A), 0), (both(A, lacks(A)), 4), (both(TWO, D), 2), (both(B, C), 0),
        ])
        for amount in range(1, 5):
            self.check(CHAIN[:amount], amount, [(NONE, amount), (ALL, 0)])

    def test_a_disjunction_has_the_lower_rank(self):
        self.check(CHAIN, 4, [
            (either(A, THREE), 1), (either(TWO, both(THREE, lacks(D))), 2), (either(NONE, THREE), 3),
            (either(B, A), 0), (either(NONE, NONE), 4),
        ])

    def test_what_is_alike_has_the_same_rank(self):
        self.check(CHAIN, 4, [
            (lacks(lacks(TWO)), 2), (lacks(either(lacks(A), lacks(B))), 2), (both(ALL, A), 1), (lacks(ALL), 4),
        ])

    def test_what_cannot_be_is_exceptional_for_all_ranks(self):
        self.check([line(C, NONE), rule(A, B)], 1, [(C, 1), (some(0, C), 1), (lacks(C), 0), (both(C, A), 1)])
        self.check([rule(C, NONE), rule(A, B)], 1, [(C, 1), (some(1, C), 1), (A, 0), (both(A, lacks(B)), 1)])
        self.check([rule(C, NONE)], 0, [(C, 0), (ALL, 0), (NONE, 0)])

    def test_over_roles(self):
        self.check([rule(A, only(0, B)), rule(ALL, C)], 1, [
            (A, 0), (lacks(C), 1), (both(A, lacks(only(0, B))), 1), (both(A, only(0, B)), 0), (lacks(only(0, B)), 0),
        ])
        self.check([line(some(0, ALL), A), rule(A, B), rule(some(0, ALL), lacks(B))], 2, [
            (A, 0), (some(0, ALL), 1), (both(B, some(0, ALL)), 2), (only(0, NONE), 0), (both(A, lacks(B)), 1),
        ])

    def test_related_elements_need_not_satisfy_the_rules(self):
        self.check([rule(A, B), rule(ALL, C)], 1, [
            (some(0, both(A, lacks(B))), 0), (some(0, lacks(C)), 0), (only(0, lacks(C)), 0), (both(A, lacks(B)), 1),
        ])

    def test_rules_that_only_together_cannot_be_satisfied(self):
        self.check([rule(A, C), rule(B, lacks(C))], 1, [(A, 0), (B, 0), (both(A, B), 1), (either(A, B), 0)])

    def test_a_concept_may_have_atoms_of_its_own(self):
        self.check([rule(A, B)], 1, [
            (both(C, D), 0), (both(some(0, A), some(1, A)), 0), (only(0, only(0, A)), 0),
            (both(A, both(lacks(B), both(C, D))), 1),
        ])

    def test_as_many_numbers_as_may_be(self):
        self.check([rule(ALL, A)], 1, [((5,) * 29 + (0,), 1), ((5,) * 29 + (1,), 0), ((5,) * 28 + (0,), 0)])
        self.check([rule(A, B)], 1, [(both((5,) * 23 + (2, 1), both(A, A)), 1)])

    def test_asking_changes_nothing(self):
        asked = [rank(B), rank(both(some(0, A), B)), rank(B), ranks(), rank(B), rule(A, lacks(C)), rank(A)]
        self.assertEqual(ask(*BIRDS, *asked)[4:], [[1, 2], [-7], [1, 2], [2, 1, 2, 1], [1, 2], [3], [0, 0]])


class TheRanks(unittest.TestCase):
    def check(self, state, expected):
        with self.subTest(state=state):
            given = ask(*state, ranks())
            for answer in given:
                self.assertGreaterEqual(answer[0], 0)
            self.assertEqual(given[-1], expected)

    def test_without_rules(self):
        for state in ([], [line(A, B)], [line(ALL, NONE)], [rule(A, B), begins()], [rule(A, NONE), drop(0)]):
            self.check(state, [0])

    def test_rules_of_the_first_rank_alone(self):
        self.check([rule(A, B)], [1, 1])
        self.check([rule(A, B), rule(B, C), rule(C, A)], [1, 1, 1, 1])
        self.check([rule(A, B), rule(B, C), rule(C, D), rule(D, A)], [1, 1, 1, 1, 1])

    def test_a_rule_is_in_each_rank_up_to_its_last(self):
        self.check(BIRDS, [2, 1, 2, 1])
        self.check(CHAIN, [4, 1, 2, 3, 4])
        self.check(CHAIN[:3], [3, 1, 2, 3])
        self.check([rule(A, B), rule(B, C), rule(C, lacks(A))], [2, 2, 1, 1])

    def test_in_the_order_of_the_rules(self):
        counts = [1, 2, 3, 4]
        for ordered in itertools.permutations(range(4)):
            self.check([CHAIN[place] for place in ordered], [4] + [counts[place] for place in ordered])
        self.check([BIRDS[2], BIRDS[1], BIRDS[0], BIRDS[3]], [2, 2, 1, 1])

    def test_several_rules_of_one_rank(self):
        self.check([line(B, A), rule(B, C), rule(A, lacks(C)), rule(B, D)], [2, 2, 1, 2])
        self.check([rule(ALL, C), rule(A, lacks(C)), rule(TWO, C), rule(ALL, D)], [3, 1, 2, 3, 1])

    def test_rules_that_are_removed_lie_in_no_rank(self):
        self.check([rule(A, NONE)], [0, 0])
        self.check([rule(ALL, NONE), rule(A, B)], [0, 0, 0])
        self.check([rule(A, B), rule(A, lacks(B))], [0, 0, 0])
        self.check([rule(A, NONE), rule(B, C)], [1, 0, 1])
        self.check([rule(B, C), rule(A, NONE), rule(C, D)], [1, 1, 0, 1])
        self.check([line(D, NONE), rule(D, A), rule(A, B)], [1, 0, 1])
        self.check([rule(NONE, A), rule(A, B)], [1, 0, 1])

    def test_the_others_are_ranked_again(self):
        self.check([rule(ALL, B), rule(A, NONE), rule(lacks(C), lacks(B))], [2, 1, 0, 2])
        # While A could be, B needed no exception to the second rule.
        self.check([rule(A, NONE), rule(ALL, either(lacks(B), some(0, A))), rule(B, C)], [2, 0, 1, 2])
        self.check([rule(ALL, either(lacks(B), some(0, A))), rule(B, C)], [1, 1, 1])

    def test_what_is_removed_may_make_others_endless(self):
        second, third = both(A, lacks(B)), both(lacks(A), B)
        rules = [rule(TWO, NONE), rule(second, some(0, TWO)), rule(third, some(0, second))]
        for ordered in itertools.permutations(rules):
            self.check(list(ordered), [0, 0, 0, 0])
            self.check(list(ordered) + [rule(ALL, lacks(A))], [1, 0, 0, 0, 1])
        self.check(rules[1:], [1, 1, 1])

    def test_a_rule_that_holds_anyway_lies_in_ranks_too(self):
        self.check([rule(A, A)], [1, 1])
        self.check([rule(ALL, lacks(A)), rule(A, A)], [2, 1, 2])
        self.check([line(A, B), rule(A, B), rule(B, lacks(A))], [2, 2, 1])

    def test_over_roles(self):
        self.check([line(some(0, ALL), A), rule(A, B), rule(some(0, ALL), lacks(B))], [2, 1, 2])
        self.check([rule(A, only(0, B)), rule(both(A, lacks(only(0, B))), C)], [2, 1, 2])
        self.check([rule(A, only(0, NONE)), rule(both(A, some(0, B)), lacks(B))], [2, 1, 2])
        self.check([line(A, some(0, B)), rule(some(0, B), C), rule(A, lacks(C))], [2, 1, 2])

    def test_what_was_asked_does_not_count(self):
        asked = [normally(some(1, A), NONE), rank(some(0, A)), ranks()]
        self.assertEqual(ask(rule(A, B), rule(both(A, C), lacks(B)), *asked)[2:], [[0], [0, 2], [2, 1, 2]])

    def test_ranks_go_with_the_rules(self):
        asked = []
        for call in CHAIN:
            asked += [ranks(), call]
        self.assertEqual(ask(*asked, ranks(), begins(), ranks()), [
            [0], [0], [1, 1], [1], [2, 1, 2], [2], [3, 1, 2, 3], [3], [4, 1, 2, 3, 4], [0], [0],
        ])

    def test_an_axiom_changes_the_ranks(self):
        asked = [rule(A, C), rule(B, lacks(C)), ranks(), line(B, A), ranks(), line(A, lacks(C)), ranks()]
        self.assertEqual(ask(*asked), [[0], [1], [1, 1, 1], [0], [2, 1, 2], [1], [0, 0, 0]])


class RanksTellTheRankOfEachRule(unittest.TestCase):
    def test_the_first_concept_of_a_rule_has_the_last_of_its_ranks(self):
        chain = [(ALL, lacks(A)), (A, lacks(B)), (TWO, lacks(C)), (THREE, D)]
        for rules in itertools.permutations(chain + [(B, NONE)], 4):
            state = [rule(*pair) for pair in rules]
            given = ask(*state, ranks(), *[rank(first) for first, second in rules])[4:]
            amount, counts = given[0][0], given[0][1:]
            for count, answer in zip(counts, given[1:]):
                with self.subTest(rules=rules):
                    self.assertEqual(answer, [count - 1 if count > 0 else amount, amount])


if __name__ == "__main__":
    unittest.main()
