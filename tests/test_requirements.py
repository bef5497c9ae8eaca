"""The requirements, each over some services and many concepts."""

import itertools
import unittest

from tests.asking import (
    ALL, NONE, A, B, C, D, always, ask, begins, both, drop, either, holds, lacks, last, line, normally, only, rank,
    ranks, rule, some,
)

NAMED = [ALL, NONE, A, B, C, lacks(A), lacks(B), both(A, B), both(B, C), both(A, lacks(C)), either(B, C)]
RELATED = [
    ALL, NONE, A, B, lacks(B), some(0, A), lacks(some(0, A)), only(0, B), both(A, B), both(B, some(0, A)),
    either(A, lacks(only(0, B))), both(A, lacks(only(0, B))),
]

# Axioms, rules, the axioms that are added for the ranks, and concepts to ask about.
SERVICES = [
    ([], [(A, B)], [], NAMED),
    ([(B, A)], [(A, C), (B, lacks(C))], [], NAMED),
    ([], [(A, B), (B, C), (C, lacks(A))], [], NAMED),
    ([], [(ALL, lacks(A)), (A, lacks(B)), (both(A, B), C)], [], NAMED),
    ([(either(A, B), C)], [(C, A), (lacks(A), lacks(C)), (B, lacks(A))], [], NAMED),
    ([], [(A, NONE), (ALL, C), (B, lacks(C))], [(A, NONE)], NAMED),
    ([], [(A, B), (A, lacks(B)), (C, A)], [(A, NONE), (C, NONE)], NAMED),
    ([], [(ALL, NONE)], [(ALL, NONE)], NAMED),
    ([(A, some(0, A))], [(A, only(0, B)), (B, lacks(A))], [], RELATED),
    ([(some(0, A), A)], [(A, lacks(B)), (some(0, A), B)], [], RELATED),
    ([], [(A, NONE), (B, some(0, A))], [(A, NONE), (B, NONE)], RELATED),
    ([(only(0, B), A)], [(ALL, lacks(A)), (B, only(0, B))], [], RELATED),
]


class Answers:
    """What one service answers, each question asked once."""

    def __init__(self, axioms, rules):
        self.calls = [line(*axiom) for axiom in axioms] + [rule(*pair) for pair in rules]
        self.known = {}

    def answer(self, call):
        key = tuple(call)
        if key not in self.known:
            self.known[key] = ask(*self.calls, call)[-1]
            if self.known[key][0] < 0:
                raise AssertionError(f"{self.known[key]} is no answer to {self.calls} and {call}")
        return self.known[key]

    def holds(self, first, second):
        return self.truth(normally(first, second))

    def always(self, first, second):
        return self.truth(always(first, second))

    def truth(self, call):
        answer = self.answer(call)
        if answer not in ([0], [1]):
            raise AssertionError(f"{answer} is no answer to {self.calls} and {call}")
        return answer == [1]

    def rank(self, concept):
        return self.answer(rank(concept))[0]

    def amount(self):
        return self.answer(ranks())[0]

    def counts(self):
        return self.answer(ranks())[1:]


class Requirements(unittest.TestCase):
    def each(self):
        """Each service, without its rules with the final and with the given axioms, and what to ask."""
        for axioms, rules, added, concepts in SERVICES:
            yield Answers(axioms, rules), Answers(axioms + added, []), Answers(axioms, []), rules, concepts

    def test_1_rules_and_axioms_normally_hold(self):
        for service, final, given, rules, concepts in self.each():
            for first, second in rules:
                self.assertTrue(service.holds(first, second), (first, second))
            for first, second in itertools.product(concepts, repeat=2):
                if given.holds(first, second):
                    self.assertTrue(service.holds(first, second), (first, second))

    def test_1_what_always_holds_normally_holds(self):
        for service, final, given, rules, concepts in self.each():
            for first, second in itertools.product(concepts, repeat=2):
                self.assertEqual(service.always(first, second), final.holds(first, second), (first, second))
                if given.always(first, second):
                    self.assertTrue(service.always(first, second), (first, second))
                if service.always(first, second):
                    self.assertTrue(service.holds(first, second), (first, second))

    def test_1_after_drop_the_other_rules_normally_hold(self):
        for axioms, rules, added, concepts in SERVICES:
            for number in range(len(rules)):
                left = rules[:number] + rules[number + 1:]
                after, service = Answers(axioms, rules), Answers(axioms, left)
                after.calls = after.calls + [drop(number)]
                with self.subTest(axioms=axioms, rules=rules, number=number):
                    for first, second in left:
                        self.assertTrue(after.holds(first, second), (first, second))
                    self.same(service, after, concepts)
                    self.same_ranks(service, after, concepts)

    def test_2_each_concept_normally_holds_for_itself(self):
        for service, final, given, rules, concepts in self.each():
            for concept in concepts:
                self.assertTrue(service.holds(concept, concept), concept)
                self.assertTrue(service.always(concept, concept), concept)

    def test_2_concepts_that_subsume_each_other(self):
        for service, final, given, rules, concepts in self.each():
            for first, second in itertools.combinations(concepts, 2):
                if given.holds(first, second) and given.holds(second, first):
                    for other in concepts:
                        self.assertEqual(service.holds(first, other), service.holds(second, other))
                    self.assertEqual(service.rank(first), service.rank(second), (first, second))
            for first, second in itertools.product(concepts, repeat=2):
                alike = lacks(lacks(both(first, either(first, first))))
                self.assertEqual(service.holds(alike, second), service.holds(first, second))
                self.assertEqual(service.rank(alike), service.rank(first))

    def test_2_conjunctions_and_disjunctions(self):
        for service, final, given, rules, concepts in self.each():
            for concept, first, second in itertools.product(concepts, repeat=3):
                together = both(first, second)
                if service.holds(concept, first) and service.holds(concept, second):
                    self.assertTrue(service.holds(concept, together), (concept, together))
                either_of = either(first, second)
                if service.holds(first, concept) and service.holds(second, concept):
                    self.assertTrue(service.holds(either_of, concept), (either_of, concept))
                if service.always(concept, first) and service.always(concept, second):
                    self.assertTrue(service.always(concept, together), (concept, together))

    def test_2_the_rank_of_a_disjunction(self):
        for service, final, given, rules, concepts in self.each():
            for first, second in itertools.product(concepts, repeat=2):
                expected = min(service.rank(first), service.rank(second))
                self.assertEqual(service.rank(either(first, second)), expected, (first, second))
                if service.always(first, second):
                    self.assertLessEqual(service.rank(second), service.rank(first))

    def test_2_what_subsumes_normally_holds_too(self):
        for service, final, given, rules, concepts in self.each():
            for concept, first, second in itertools.product(concepts, repeat=3):
                if service.holds(concept, first) and given.holds(first, second):
                    self.assertTrue(service.holds(concept, second), (concept, first, second))

    def test_3_a_conjunction_keeps_what_normally_holds(self):
        for service, final, given, rules, concepts in self.each():
            for concept, other in itertools.product(concepts, repeat=2):
                if service.holds(concept, other) or not service.holds(concept, lacks(other)):
                    for second in concepts:
                        if service.holds(concept, second):
                            self.assertTrue(service.holds(both(concept, other), second), (concept, other, second))

    def test_3_a_conjunction_keeps_the_rank(self):
        for service, final, given, rules, concepts in self.each():
            for concept, other in itertools.product(concepts, repeat=2):
                rank_of_both = service.rank(both(concept, other))
                if not service.holds(concept, lacks(other)) or service.rank(concept) == service.amount():
                    self.assertEqual(rank_of_both, service.rank(concept), (concept, other))
                else:
                    self.assertGreater(rank_of_both, service.rank(concept), (concept, other))

    def test_3_only_then(self):
        birds = [line(B, A), rule(A, C), rule(B, lacks(C))]
        self.assertEqual(holds(birds, A, lacks(B)), 1)
        self.assertEqual((holds(birds, A, C), holds(birds, both(A, B), C)), (1, 0))

    def test_4_what_can_be_is_no_contradiction(self):
        for service, final, given, rules, concepts in self.each():
            for concept in concepts:
                self.assertEqual(service.holds(concept, NONE), final.holds(concept, NONE), concept)
                self.assertEqual(service.holds(concept, NONE), service.always(concept, NONE), concept)
                if service.always(concept, NONE):
                    self.assertEqual(service.rank(concept), service.amount(), concept)

    def test_5_concepts_of_rank_0_have_all_rules(self):
        for axioms, rules, added, concepts in SERVICES:
            with self.subTest(axioms=axioms, rules=rules):
                service, final = Answers(axioms, rules), Answers(axioms + added, [])
                satisfied = ALL
                for first, second in rules:
                    if (first, NONE) not in added:
                        satisfied = both(satisfied, either(lacks(first), second))
                for concept, second in itertools.product(concepts, repeat=2):
                    normal = both(concept, satisfied)
                    if len(normal + second) <= 30:
                        self.assertEqual(service.rank(concept) == 0, self.has_rank_0(service, normal), concept)
                        if service.rank(concept) == 0:
                            self.assertEqual(service.holds(concept, second), service.always(normal, second))
                            self.assertEqual(service.holds(concept, second), final.holds(normal, second))

    def has_rank_0(self, service, normal):
        return service.amount() == 0 or not service.always(normal, NONE)

    def test_6_each_rank_has_some_of_the_rules_before_it(self):
        # Wings are a rule of the first rank alone, so they are lost with the first exception;
        # the two other rules are, in turn, the whole of the next ranks.
        state = [rule(ALL, C), rule(A, lacks(C)), rule(both(A, B), C), rule(ALL, D)]
        expected = {ALL: (1, 0, 1), A: (0, 1, 0), both(A, B): (1, 0, 0), both(both(A, B), lacks(C)): (0, 1, 0)}
        for concept, answers in expected.items():
            with self.subTest(concept=concept):
                self.assertEqual(tuple(holds(state, concept, second) for second in (C, lacks(C), D)), answers)

    def test_6_ranks_tell_of_each_rank_which_rules_it_has(self):
        for axioms, rules, added, concepts in SERVICES:
            service = Answers(axioms, rules)
            counts, amount = service.counts(), service.amount()
            self.assertEqual(len(counts), len(rules))
            with self.subTest(axioms=axioms, rules=rules):
                sizes = [sum(1 for count in counts if count > place) for place in range(amount + 1)]
                self.assertEqual(sizes[0], sum(1 for first, second in rules if (first, NONE) not in added))
                self.assertEqual(sizes[amount], 0)
                for place in range(amount):
                    self.assertLess(sizes[place + 1], sizes[place])
                for (first, second), count in zip(rules, counts):
                    # It is exceptional just for the ranks ahead of the last one that its rule is in.
                    self.assertEqual(service.rank(first), count - 1 if count > 0 else amount, first)

    def test_6_first_concepts_of_the_last_rank_are_not_exceptional(self):
        for service, final, given, rules, concepts in self.each():
            for first, second in rules:
                satisfiable = not final.holds(first, NONE)
                self.assertEqual(satisfiable, not service.holds(first, NONE), first)
                if satisfiable:
                    self.assertFalse(service.holds(first, lacks(second)), first)

    def test_7_without_rules_it_is_subsumption(self):
        state = [line(A, B), line(some(0, A), A)]
        table = [
            (A, B, 1), (some(0, A), B, 1), (some(0, some(0, A)), A, 1), (lacks(A), only(0, lacks(A)), 1),
            (B, A, 0), (ALL, B, 0), (both(A, lacks(B)), NONE, 1), (A, some(0, A), 0), (some(0, A), lacks(C), 0),
        ]
        for first, second, expected in table:
            with self.subTest(first=first, second=second):
                self.assertEqual(holds(state, first, second), expected)
                self.assertEqual(last(*state, always(first, second)), expected)
                self.assertEqual(ask(*state, rank(first), ranks())[-2:], [[0, 0], [0]])

    def test_7_without_rules_what_always_holds_normally_holds(self):
        for axioms, rules, added, concepts in SERVICES:
            service = Answers(axioms, rules)
            service.calls = service.calls + [drop(0)] * len(rules)
            for first, second in itertools.product(concepts, repeat=2):
                self.assertEqual(service.holds(first, second), service.always(first, second), (first, second))
                self.assertEqual(service.answer(rank(first)), [0, 0])
            self.assertEqual(service.answer(ranks()), [0])

    def test_7_a_rule_that_holds_anyway_changes_nothing(self):
        for axioms, rules, added, concepts in SERVICES:
            service, given = Answers(axioms, rules), Answers(axioms, [])
            for first, second in itertools.product(concepts[:6], concepts):
                if len(rules) < 4 and (first, second) not in rules and given.holds(first, second):
                    for more in (rules + [(first, second)], [(first, second)] + rules):
                        with self.subTest(axioms=axioms, rules=more):
                            self.same(service, Answers(axioms, more), concepts)

    def test_7_a_rule_that_holds_anyway_may_be_dropped(self):
        for axioms, rules, added, concepts in SERVICES:
            service, after = Answers(axioms, rules), Answers(axioms, rules)
            after.calls = after.calls + [rule(A, A), drop(len(rules))]
            self.same(service, after, concepts)
            self.same_ranks(service, after, concepts)

    def test_7_the_order_of_the_rules_does_not_matter(self):
        for axioms, rules, added, concepts in SERVICES:
            service = Answers(axioms, rules)
            for ordered in itertools.permutations(rules):
                with self.subTest(axioms=axioms, rules=ordered):
                    other = Answers(axioms, list(ordered))
                    self.same(service, other, concepts)
                    self.same_rank(service, other, concepts)
                    counts = dict(zip(rules, service.counts()))
                    self.assertEqual(other.counts(), [counts[pair] for pair in ordered])

    def test_7_the_order_of_axioms_and_rules_does_not_matter(self):
        calls = [line(B, A), rule(A, C), rule(B, lacks(C)), line(C, either(A, B))]
        pairs = list(itertools.product([A, B, C, both(A, B), both(B, C), ALL], repeat=2))
        expected = [holds(calls, *pair) for pair in pairs]
        for ordered in itertools.permutations(calls):
            self.assertEqual([holds(list(ordered), *pair) for pair in pairs], expected)

    def same(self, service, other, concepts):
        for first, second in itertools.product(concepts, repeat=2):
            self.assertEqual(service.holds(first, second), other.holds(first, second), (first, second))
            self.assertEqual(service.always(first, second), other.always(first, second), (first, second))

    def same_rank(self, service, other, concepts):
        for concept in concepts:
            self.assertEqual(service.answer(rank(concept)), other.answer(rank(concept)), concept)

    def same_ranks(self, service, other, concepts):
        self.same_rank(service, other, concepts)
        self.assertEqual(service.answer(ranks()), other.answer(ranks()))

    def test_8_an_error_changes_nothing(self):
        many = both(both(A, B), both(C, D))
        errors = [
            (line(A), -1), (line(many, some(1, ALL)), -7), (rule(A, B, C), -1), (rule(many, some(1, ALL)), -7),
            (normally(), -1), (normally(many, some(1, ALL)), -7), (always((2, 4), A), -1),
            (always(some(1, ALL), many), -7), (rank(A, B), -1), (rank(both(many, some(1, ALL))), -7),
            (drop(4), -2), (drop(4294967295), -2),
        ]
        for axioms, rules, added, concepts in SERVICES:
            service, after = Answers(axioms, rules), Answers(axioms, rules)
            refused = errors + [(rule(*rules[0]), -4), (drop(len(rules)), -2)]
            after.calls = after.calls + [call for call, code in refused]
            with self.subTest(axioms=axioms, rules=rules):
                self.assertEqual(ask(*after.calls)[-len(refused):], [[code] for call, code in refused])
                self.same(service, after, concepts)
                self.same_ranks(service, after, concepts)

    def test_begins_removes_all(self):
        empty = Answers([], [])
        for axioms, rules, added, concepts in SERVICES:
            after = Answers(axioms, rules)
            after.calls = after.calls + [begins()]
            with self.subTest(axioms=axioms, rules=rules):
                self.same(empty, after, concepts)
                self.same_ranks(empty, after, concepts)
                self.assertEqual(ask(*after.calls, line(C, D), rule(C, D), normally(D, C))[-3:], [[0], [0], [0]])


if __name__ == "__main__":
    unittest.main()
