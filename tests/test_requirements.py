"""The requirements, each over some services and many concepts."""

import itertools
import unittest

from tests.asking import (
    ALL, NONE, A, B, C, D, ask, begins, both, either, holds, lacks, last, line, normally, only, rule, some,
)

NAMED = [ALL, NONE, A, B, C, lacks(A), lacks(B), both(A, B), both(B, C), both(A, lacks(C)), either(B, C)]
RELATED = [
    ALL, NONE, A, B, lacks(B), some(0, A), lacks(some(0, A)), only(0, B), both(A, B), both(B, some(0, A)),
    either(A, lacks(only(0, B))), both(A, lacks(only(0, B))),
]

# Axioms, rules, the axioms that are added for the ranks, and concepts to ask about.
SERVICES = [
    ([], [(A, B)], [], NAMED),
    ([(B, A)], [(A, C), (B, lacks(C))], [], NAMED),
    ([], [(A, B), (B, C), (C, lacks(A))], [], NAMED),
    ([], [(ALL, lacks(A)), (A, lacks(B)), (both(A, B), C)], [], NAMED),
    ([(either(A, B), C)], [(C, A), (lacks(A), lacks(C)), (B, lacks(A))], [], NAMED),
    ([], [(A, NONE), (ALL, C), (B, lacks(C))], [(A, NONE)], NAMED),
    ([], [(A, B), (A, lacks(B)), (C, A)], [(A, NONE), (C, NONE)], NAMED),
    ([], [(ALL, NONE)], [(ALL, NONE)], NAMED),
    ([(A, some(0, A))], [(A, only(0, B)), (B, lacks(A))], [], RELATED),
    ([(some(0, A), A)], [(A, lacks(B)), (some(0, A), B)], [], RELATED),
    ([], [(A, NONE), (B, some(0, A))], [(A, NONE), (B, NONE)], RELATED),
    ([(only(0, B), A)], [(ALL, lacks(A)), (B, only(0, B))], [], RELATED),
]


class Answers:
    """What one service answers, each question asked once."""

    def __init__(self, axioms, rules):
        self.calls = [line(*axiom) for axiom in axioms] + [rule(*pair) for pair in rules]
        self.known = {}

    def holds(self, first, second):
        if (first, second) not in self.known:
            answer = holds(self.calls, first, second)
            if answer not in (0, 1):
                raise AssertionError(f"{answer} is no answer to {self.calls} and {first}, {second}")
            self.known[first, second] = answer
        return self.known[first, second] == 1


class Requirements(unittest.TestCase):
    def each(self):
        """Each service, without its rules with the final and with the given axioms, and what to ask."""
        for axioms, rules, added, concepts in SERVICES:
            yield Answers(axioms, rules), Answers(axioms + added, []), Answers(axioms, []), rules, concepts

    def test_1_rules_and_axioms_normally_hold(self):
        for service, final, given, rules, concepts in self.each():
            for first, second in rules:
                self.assertTrue(service.holds(first, second), (first, second))
            for first, second in itertools.product(concepts, repeat=2):
                if given.holds(first, second):
                    self.assertTrue(service.holds(first, second), (first, second))

    def test_2_each_concept_normally_holds_for_itself(self):
        for service, final, given, rules, concepts in self.each():
            for concept in concepts:
                self.assertTrue(service.holds(concept, concept), concept)

    def test_2_concepts_that_subsume_each_other(self):
        for service, final, given, rules, concepts in self.each():
            for first, second in itertools.combinations(concepts, 2):
                if given.holds(first, second) and given.holds(second, first):
                    for other in concepts:
                        self.assertEqual(service.holds(first, other), service.holds(second, other))
            for first, second in itertools.product(concepts, repeat=2):
                alike = lacks(lacks(both(first, either(first, first))))
                self.assertEqual(service.holds(alike, second), service.holds(first, second))

    def test_2_conjunctions_and_disjunctions(self):
        for service, final, given, rules, concepts in self.each():
            for concept, first, second in itertools.product(concepts, repeat=3):
                together = both(first, second)
                if service.holds(concept, first) and service.holds(concept, second):
                    self.assertTrue(service.holds(concept, together), (concept, together))
                either_of = either(first, second)
                if service.holds(first, concept) and service.holds(second, concept):
                    self.assertTrue(service.holds(either_of, concept), (either_of, concept))

    def test_2_what_subsumes_normally_holds_too(self):
        for service, final, given, rules, concepts in self.each():
            for concept, first, second in itertools.product(concepts, repeat=3):
                if service.holds(concept, first) and given.holds(first, second):
                    self.assertTrue(service.holds(concept, second), (concept, first, second))

    def test_3_a_conjunction_keeps_what_normally_holds(self):
        for service, final, given, rules, concepts in self.each():
            for concept, other in itertools.product(concepts, repeat=2):
                if service.holds(concept, other) or not service.holds(concept, lacks(other)):
                    for second in concepts:
                        if service.holds(concept, second):
                            self.assertTrue(service.holds(both(concept, other), second), (concept, other, second))

    def test_3_only_then(self):
        birds = [line(B, A), rule(A, C), rule(B, lacks(C))]
        self.assertEqual(holds(birds, A, lacks(B)), 1)
        self.assertEqual((holds(birds, A, C), holds(birds, both(A, B), C)), (1, 0))

    def test_4_what_can_be_is_no_contradiction(self):
        for service, final, given, rules, concepts in self.each():
            for concept in concepts:
                self.assertEqual(service.holds(concept, NONE), final.holds(concept, NONE), concept)

    def test_5_concepts_of_rank_0_have_all_rules(self):
        for axioms, rules, added, concepts in SERVICES:
            with self.subTest(axioms=axioms, rules=rules):
                service, final = Answers(axioms, rules), Answers(axioms + added, [])
                satisfied = ALL
                for first, second in rules:
                    if (first, NONE) not in added:
                        satisfied = both(satisfied, either(lacks(first), second))
                for concept, second in itertools.product(concepts, repeat=2):
                    normal = both(concept, satisfied)
                    if len(normal + second) <= 30 and not final.holds(normal, NONE):
                        self.assertEqual(service.holds(concept, second), final.holds(normal, second))

    def test_6_each_rank_has_some_of_the_rules_before_it(self):
        # Wings are a rule of the first rank alone, so they are lost with the first exception;
        # the two other rules are, in turn, the whole of the next ranks.
        state = [rule(ALL, C), rule(A, lacks(C)), rule(both(A, B), C), rule(ALL, D)]
        expected = {ALL: (1, 0, 1), A: (0, 1, 0), both(A, B): (1, 0, 0), both(both(A, B), lacks(C)): (0, 1, 0)}
        for concept, answers in expected.items():
            with self.subTest(concept=concept):
                self.assertEqual(tuple(holds(state, concept, second) for second in (C, lacks(C), D)), answers)

    def test_6_first_concepts_of_the_last_rank_are_not_exceptional(self):
        for service, final, given, rules, concepts in self.each():
            for first, second in rules:
                satisfiable = not final.holds(first, NONE)
                self.assertEqual(satisfiable, not service.holds(first, NONE), first)
                if satisfiable:
                    self.assertFalse(service.holds(first, lacks(second)), first)

    def test_7_without_rules_it_is_subsumption(self):
        state = [line(A, B), line(some(0, A), A)]
        table = [
            (A, B, 1), (some(0, A), B, 1), (some(0, some(0, A)), A, 1), (lacks(A), only(0, lacks(A)), 1),
            (B, A, 0), (ALL, B, 0), (both(A, lacks(B)), NONE, 1), (A, some(0, A), 0), (some(0, A), lacks(C), 0),
        ]
        for first, second, expected in table:
            with self.subTest(first=first, second=second):
                self.assertEqual(holds(state, first, second), expected)

    def test_7_a_rule_that_holds_anyway_changes_nothing(self):
        for axioms, rules, added, concepts in SERVICES:
            service, given = Answers(axioms, rules), Answers(axioms, [])
            for first, second in itertools.product(concepts[:6], concepts):
                if len(rules) < 4 and (first, second) not in rules and given.holds(first, second):
                    for more in (rules + [(first, second)], [(first, second)] + rules):
                        with self.subTest(axioms=axioms, rules=more):
                            self.same(service, Answers(axioms, more), concepts)

    def test_7_the_order_of_the_rules_does_not_matter(self):
        for axioms, rules, added, concepts in SERVICES:
            service = Answers(axioms, rules)
            for ordered in itertools.permutations(rules):
                with self.subTest(axioms=axioms, rules=ordered):
                    self.same(service, Answers(axioms, list(ordered)), concepts)

    def test_7_the_order_of_axioms_and_rules_does_not_matter(self):
        calls = [line(B, A), rule(A, C), rule(B, lacks(C)), line(C, either(A, B))]
        pairs = list(itertools.product([A, B, C, both(A, B), both(B, C), ALL], repeat=2))
        expected = [holds(calls, *pair) for pair in pairs]
        for ordered in itertools.permutations(calls):
            self.assertEqual([holds(list(ordered), *pair) for pair in pairs], expected)

    def same(self, service, other, concepts):
        for first, second in itertools.product(concepts, repeat=2):
            self.assertEqual(service.holds(first, second), other.holds(first, second), (first, second))

    def test_8_an_error_changes_nothing(self):
        for axioms, rules, added, concepts in SERVICES:
            service = Answers(axioms, rules)
            for wrong in ([line(A)], [rule(*rules[0])], [rule(both(both(A, B), both(C, D)), some(1, ALL))]):
                after = Answers(axioms, rules)
                self.assertLess(last(*after.calls, *wrong), 0)
                after.calls = after.calls + wrong
                with self.subTest(axioms=axioms, rules=rules, wrong=wrong):
                    self.same(service, after, concepts)

    def test_begins_removes_all(self):
        empty = Answers([], [])
        for axioms, rules, added, concepts in SERVICES:
            after = Answers(axioms, rules)
            after.calls = after.calls + [begins()]
            with self.subTest(axioms=axioms, rules=rules):
                self.same(empty, after, concepts)
                self.assertEqual(ask(*after.calls, line(C, D), rule(C, D), normally(D, C))[-3:], [[0], [0], [0]])


if __name__ == "__main__":
    unittest.main()
