"""Errors: which there are, which comes first, and that they change nothing."""

import unittest

from tests.asking import (
    ALL, NONE, A, B, C, D, always, ask, begins, both, drop, either, firsts, lacks, last, line, normally, only, rank,
    ranks, rule, some,
)

LARGEST = 4294967295
CALLS = [line, rule, normally, always]

NOT_TWO_CONCEPTS = [
    # no numbers, or one concept alone
    (), (0,), (1,), A, both(A, B), either(A, B), lacks(A), some(0, A), only(1, A), lacks(lacks(ALL)),
    # a third concept, or numbers that are left over
    (0, 0, 0), A + B + C, A + B + (0,), A + B + (2,), A + B + (5,), A + B + (8,), A + B + (0, LARGEST),
    some(0, A) + only(0, A) + (3,), (0, 1, 0, 1), (0,) * 30,
    # a concept that is cut short
    (2,), (3,), (4,), (5,), (6,), (7,), (6, 0), (7, 1), (3, 0), (4, 1), (0, 2), (0, 3, 0), (0, 4, 2, 0),
    A + (2,), A + (5,), A + (6,), A + (7, 0), A + (6, 1, 2), A + (3, 2, 0), A + (3, 2, 0, 2), (5,) * 30,
    (3,) * 30, (2, 0, 3, 2, 0, 6, 0), (6, 0, 6, 0, 6, 0),
    # a name above 3
    (2, 4, 0), (0, 2, 4), (2, 5) + A, A + (2, 4), (5, 2, 4) + A, A + (6, 0, 2, 4), (2, LARGEST, 0),
    # a role above 1
    (6, 2, 0, 0), (7, 2, 0, 0), A + (6, 2) + A, A + (7, 2) + A, (6, 3) + A + B, (7, LARGEST) + A + B,
    (6, 0, 7, 2, 0, 0), (6, 2, 0), (7, 4, 0),
    # a number above 7 where a concept begins
    (8, 0), (0, 8), (8, 0, 0), A + (8,), A + (5, 8), A + (3, 0, 9), (6, 0, 8, 0), (9, 2, 0), (LARGEST, 0),
    (0, LARGEST), (LARGEST,), (LARGEST, LARGEST), (5, LARGEST, 0), (10,) * 30, A + (6, 0, LARGEST),
]

NOT_ONE_CONCEPT = [
    # no numbers, or more than one concept
    (), (0, 0), (0, 1), (1, 1), A + B, A + (0,), both(A, B) + C, lacks(A) + NONE, some(0, A) + ALL, (0,) * 30,
    A + B + C, only(1, A) + (2,), A + (5,), A + (8,), A + (LARGEST,), (0, LARGEST), (1, 0, 0), both(A, B) + (3,),
    # a concept that is cut short
    (2,), (3,), (4,), (5,), (6,), (7,), (6, 0), (7, 1), (3, 0), (4, 1), (3, 2, 0), (3, 2, 0, 2), (4, 2, 0, 5), (5, 5),
    (6, 1, 2), (7, 0, 3, 0), (6, 0, 6, 0), (5,) * 30, (3,) * 30, (6, 0) * 15,
    # a name above 3
    (2, 4), (2, 5), (5, 2, 4), (2, LARGEST), (3, 2, 0, 2, 4), (6, 0, 2, 4), (4, 2, 4, 2, 0),
    # a role above 1
    (6, 2, 0), (7, 2, 0), (6, 2, 2, 0), (6, 3) + A, (7, LARGEST) + A, (6, 0, 7, 2, 0), (5, 6, 2, 0), (6, 2),
    # a number above 7 where a concept begins
    (8,), (9,), (LARGEST,), (8, 0), (5, 8), (3, 0, 9), (6, 0, 8), (7, 1, LARGEST), (10,) * 30, (9, 2, 0), (4, 8, 0),
]

FIVE_ATOMS_OF_ONE = [
    both(both(both(A, B), both(C, D)), some(0, ALL)),
    some(0, some(0, some(0, some(0, A)))),
    either(only(0, some(1, both(A, lacks(only(0, B))))), NONE),
    both(some(0, both(A, B)), both(lacks(C), only(0, both(A, B)))),
    both(both(some(0, A), some(1, A)), both(only(0, A), only(1, A))),
    lacks(both(either(some(0, lacks(lacks(A))), some(0, A)), either(some(0, both(A, A)), only(0, lacks(A))))),
    both(both(some(0, ALL), some(1, ALL)), both(only(0, NONE), both(only(1, NONE), some(0, NONE)))),
]

FOUR_ATOMS_OF_ONE = [
    both(both(A, B), both(C, D)),
    some(0, some(0, some(0, A))),
    both(some(0, both(A, B)), some(0, lacks(both(A, B)))),
    both(either(both(some(0, A), some(0, A)), some(0, B)), either(some(0, A), both(A, B))),
    either(both(some(0, A), some(1, A)), either(only(0, A), A)),
    both(both(some(0, ALL), some(1, ALL)), both(only(0, ALL), only(1, ALL))),
]

FIVE_ATOMS = [
    both(both(A, B), both(C, D)) + some(0, ALL),
    both(some(0, A), some(0, B)) + some(0, C),
    both(some(0, A), some(1, A)) + both(only(0, A), only(1, A)),
    both(some(0, ALL), some(1, ALL)) + both(only(0, NONE), either(only(1, NONE), A)),
    some(0, some(0, some(0, some(0, A)))) + NONE,
    NONE + only(0, some(1, both(A, lacks(only(0, B))))),
    both(A, B) + both(some(0, lacks(C)), D),
    either(some(0, lacks(lacks(A))), some(0, A)) + either(some(0, both(A, A)), only(0, lacks(A))),
]

FOUR_ATOMS = [
    both(A, B) + both(C, D),
    both(both(A, B), both(C, D)) + either(either(D, C), either(B, A)),
    some(0, some(0, some(0, A))) + both(A, both(some(0, A), some(0, some(0, A)))),
    both(some(0, A), some(0, A)) + both(both(some(0, B), some(0, A)), both(A, B)),
    both(some(0, A), some(1, A)) + either(only(0, A), A),
    both(some(0, ALL), some(1, ALL)) + both(only(0, ALL), only(1, ALL)),
    lacks(some(0, both(A, both(B, C)))) + lacks(lacks(some(0, both(A, both(B, C))))),
]


class NotTwoConcepts(unittest.TestCase):
    def test_each_call_refuses_them(self):
        for call in CALLS:
            for numbers in NOT_TWO_CONCEPTS:
                with self.subTest(call=call.__name__, numbers=numbers):
                    self.assertEqual(ask(call(numbers)), [[-1]])

    def test_a_refused_call_is_followed_by_the_next(self):
        for call in CALLS:
            for numbers in NOT_TWO_CONCEPTS:
                with self.subTest(call=call.__name__, numbers=numbers):
                    asked = [rule(A, B), call(numbers), line(B, C), rule(C, A), normally(A, C), normally(B, A)]
                    self.assertEqual(firsts(*asked), [0, -1, 0, 1, 1, 1])

    def test_names_and_roles_that_there_are(self):
        for call in CALLS:
            expected = 1 if call in (normally, always) else 0
            for numbers in [(1, 2, 3), (1, 6, 1, 0), (1, 7, 1, 0), (1, 6, 0, 2, 3), (1, 7, 0, 0), (1, 2, 0)]:
                with self.subTest(call=call.__name__, numbers=numbers):
                    self.assertEqual(last(call(numbers)), expected)

    def test_names_and_roles_are_no_concepts(self):
        # The number behind 2, 6 or 7 is read as a name or a role, whatever it is elsewhere.
        self.assertEqual(firsts(normally(2, 2, 2, 2), normally(2, 3, 2, 2), normally(6, 1, 0, 0)), [1, 0, 1])
        self.assertEqual(firsts(normally(2, 3, 2), normally(2, 2, 2), normally(6, 1, 0)), [-1, -1, -1])


class NotOneConcept(unittest.TestCase):
    def test_rank_refuses_them(self):
        for numbers in NOT_ONE_CONCEPT:
            with self.subTest(numbers=numbers):
                self.assertEqual(ask(rank(numbers)), [[-1]])
                self.assertEqual(ask(rule(A, B), rank(numbers))[-1], [-1])

    def test_a_refused_rank_is_followed_by_the_next(self):
        for numbers in NOT_ONE_CONCEPT:
            with self.subTest(numbers=numbers):
                asked = [rule(A, B), rank(numbers), rank(both(A, lacks(B))), rule(C, A), ranks()]
                self.assertEqual(ask(*asked), [[0], [-1], [1, 1], [1], [1, 1, 1]])

    def test_one_is_not_two_and_two_are_not_one(self):
        for concept in [ALL, NONE, A, both(A, B), either(A, B), lacks(A), some(0, A), only(1, A)]:
            with self.subTest(concept=concept):
                self.assertEqual(ask(rank(concept)), [[0, 0]])
                self.assertEqual(ask(rank(concept, concept)), [[-1]])
                for call in CALLS:
                    self.assertEqual(ask(call(concept)), [[-1]])
                    self.assertEqual(ask(call(concept, concept, concept)), [[-1]])

    def test_names_and_roles_that_there_are(self):
        for numbers in [(2, 0), (2, 3), (6, 0, 0), (6, 1, 0), (7, 0, 1), (7, 1, 2, 3), (5, 2, 3), (6, 1, 7, 1, 2, 3)]:
            with self.subTest(numbers=numbers):
                self.assertEqual(ask(rank(numbers)), [[0, 0]])


class TooMany(unittest.TestCase):
    def test_the_fourth_axiom(self):
        lines = [line(A, B), line(B, C), line(C, A)]
        self.assertEqual(firsts(*lines, line(A, C)), [0, 1, 2, -7])
        self.assertEqual(firsts(*lines, line(A, B)), [0, 1, 2, -7])
        self.assertEqual(firsts(*lines, line(ALL, NONE), normally(ALL, NONE)), [0, 1, 2, -7, 0])

    def test_equal_axioms_are_axioms(self):
        self.assertEqual(firsts(line(A, B), line(A, B), line(A, B), line(A, B)), [0, 1, 2, -7])

    def test_the_fifth_rule(self):
        rules = [rule(A, B), rule(B, C), rule(C, D), rule(D, A)]
        self.assertEqual(firsts(*rules, rule(A, C)), [0, 1, 2, 3, -7])
        self.assertEqual(firsts(*rules, rule(ALL, NONE), normally(ALL, NONE)), [0, 1, 2, 3, -7, 0])

    def test_axioms_and_rules_are_counted_apart(self):
        lines = [line(A, B), line(B, C), line(C, D)]
        rules = [rule(A, B), rule(B, C), rule(C, D), rule(D, B)]
        for asked in (lines + rules, rules + lines):
            self.assertNotIn(-7, firsts(*asked))
            self.assertEqual(firsts(*asked, line(A, D), rule(A, D))[-2:], [-7, -7])

    def test_four_atoms(self):
        for numbers in FOUR_ATOMS:
            with self.subTest(numbers=numbers):
                self.assertEqual(firsts(line(numbers), rule(numbers)), [0, 0])
                for call in (normally, always):
                    self.assertIn(last(call(numbers)), (0, 1))
                    self.assertEqual(last(line(numbers), rule(numbers), call(numbers)), 1)

    def test_five_atoms(self):
        for call in CALLS:
            for numbers in FIVE_ATOMS:
                with self.subTest(call=call.__name__, numbers=numbers):
                    self.assertEqual(ask(call(numbers)), [[-7]])

    def test_atoms_of_the_one_concept_of_rank(self):
        for concept in FOUR_ATOMS_OF_ONE:
            with self.subTest(concept=concept):
                self.assertEqual(ask(rank(concept)), [[0, 0]])
                self.assertEqual(ask(rule(concept, NONE), rank(concept)), [[0], [0, 0]])
        for concept in FIVE_ATOMS_OF_ONE:
            with self.subTest(concept=concept):
                self.assertEqual(ask(rank(concept)), [[-7]])
                self.assertEqual(ask(rule(A, B), rank(concept)), [[0], [-7]])

    def test_atoms_of_all_axioms_and_rules_and_of_the_concept_of_rank(self):
        for first, second in [(line, line), (line, rule), (rule, line), (rule, rule)]:
            state = [first(A, B), second(C, C)]
            with self.subTest(first=first.__name__, second=second.__name__):
                self.assertEqual(len(ask(*state, rank(D))[-1]), 2)
                self.assertEqual(len(ask(*state, rank(some(0, both(A, C))))[-1]), 2)
                self.assertEqual(ask(*state, rank(some(0, D)))[-1], [-7])
                self.assertEqual(ask(*state, rank(both(D, some(0, A))))[-1], [-7])
                self.assertEqual(ask(*state, rank(both(only(0, A), some(0, A))))[-1], [-7])

    def test_ranks_and_drop_bring_no_atoms(self):
        full = [line(A, B), rule(C, some(0, A))]
        self.assertEqual(ask(*full, ranks(), drop(0), ranks()), [[0], [0], [1, 1], [0], [0]])

    def test_atoms_of_all_axioms_and_rules_together(self):
        for first in (line, rule):
            for second in (line, rule):
                state = [first(A, B), second(C, C)]
                for call in CALLS:
                    with self.subTest(first=first.__name__, second=second.__name__, call=call.__name__):
                        self.assertGreaterEqual(last(*state, call(D, A)), 0)
                        self.assertEqual(last(*state, call(some(0, D), A)), -7)
                        self.assertEqual(last(*state, call(A, some(0, D))), -7)
                        self.assertGreaterEqual(last(*state, call(A, only(1, both(A, C)))), 0)
                        self.assertEqual(last(*state, call(some(0, A), only(0, A))), -7)

    def test_atoms_that_are_alike_in_meaning_are_not_equal(self):
        full = [line(some(0, A), B), rule(B, C)]
        for concept in (
            lacks(only(0, lacks(A))), some(0, lacks(lacks(A))), some(0, both(A, A)), some(1, A), only(0, A),
        ):
            for call in CALLS:
                with self.subTest(call=call.__name__, concept=concept):
                    self.assertEqual(last(*full, call(C, concept)), -7)
                    self.assertGreaterEqual(last(*full, call(C, lacks(lacks(some(0, A))))), 0)

    def test_forms_without_names_and_roles_are_no_atoms(self):
        concept = both(both(either(A, B), lacks(C)), either(D, both(ALL, lacks(NONE))))
        self.assertEqual(firsts(line(concept, ALL), rule(concept, NONE), normally(concept, NONE)), [0, 0, 1])
        self.assertEqual(ask(rule(concept, NONE), always(concept, NONE), rank(concept)), [[0], [1], [0, 0]])

    def test_concepts_that_were_asked_about_do_not_count(self):
        asked = [rule(A, B), normally(C, D), normally(some(0, A), some(1, A)), rule(C, some(0, ALL))]
        self.assertEqual(firsts(*asked), [0, 0, 0, 1])
        asked = [rule(A, B), always(C, D), rank(both(C, D)), always(some(0, A), some(1, A)), rule(C, some(0, ALL))]
        self.assertEqual(firsts(*asked), [0, 0, 0, 0, 1])


class Equal(unittest.TestCase):
    def test_an_equal_rule(self):
        self.assertEqual(firsts(rule(A, B), rule(A, B)), [0, -4])
        self.assertEqual(firsts(rule(A, B), rule(B, C), rule(C, D), rule(A, B)), [0, 1, 2, -4])
        self.assertEqual(firsts(rule(some(0, A), B), rule(some(0, A), B)), [0, -4])

    def test_rules_that_are_written_otherwise_are_not_equal(self):
        self.assertEqual(firsts(rule(A, B), rule(B, A), rule(A, lacks(lacks(B))), rule(A, both(B, B))), [0, 1, 2, 3])
        self.assertEqual(firsts(rule(both(A, B), C), rule(both(B, A), C)), [0, 1])
        self.assertEqual(firsts(rule(A, B), rule(A, C), rule(C, B)), [0, 1, 2])

    def test_a_rule_may_be_like_an_axiom(self):
        self.assertEqual(firsts(line(A, B), rule(A, B), line(A, B)), [0, 0, 1])

    def test_after_begins_no_rule_is_there(self):
        self.assertEqual(firsts(rule(A, B), begins(), rule(A, B), rule(A, B)), [0, 0, 0, -4])

    def test_after_drop_that_rule_is_not_there(self):
        self.assertEqual(firsts(rule(A, B), drop(0), rule(A, B), rule(A, B)), [0, 0, 0, -4])


class Order(unittest.TestCase):
    def test_what_is_not_two_concepts_comes_ahead_of_all(self):
        lines = [line(A, B), line(B, C), line(C, A)]
        rules = [rule(A, B), rule(B, C), rule(C, D), rule(D, A)]
        for numbers in [(), (0,), A + B + C, A + B + (0,), A + (2, 4), some(0, ALL) + (2,), (8, LARGEST)]:
            with self.subTest(numbers=numbers):
                self.assertEqual(last(*lines, line(numbers)), -1)
                self.assertEqual(last(*rules, rule(numbers)), -1)
                for call in (normally, always):
                    self.assertEqual(last(*lines, *rules, call(numbers)), -1)

    def test_numbers_left_over_come_ahead_of_five_atoms(self):
        for call in CALLS:
            for numbers in FIVE_ATOMS:
                with self.subTest(call=call.__name__, numbers=numbers):
                    self.assertEqual(last(call(numbers, 0)), -1)
                    self.assertEqual(last(call(numbers[:-1])), -1)

    def test_numbers_left_over_come_ahead_of_five_atoms_for_rank(self):
        for concept in FIVE_ATOMS_OF_ONE:
            with self.subTest(concept=concept):
                self.assertEqual(ask(rank(concept, 0)), [[-1]])
                self.assertEqual(ask(rank(concept[:-1])), [[-1]])
        for numbers in [A + B + C + D + some(0, ALL), both(both(A, B), both(C, D)) + some(0, ALL)]:
            self.assertEqual(ask(rank(numbers)), [[-1]])

    def test_too_many_comes_ahead_of_an_equal_rule(self):
        rules = [rule(A, B), rule(B, C), rule(C, D), rule(D, A)]
        for again in rules:
            self.assertEqual(last(*rules, again), -7)


class NothingIsChanged(unittest.TestCase):
    def test_after_errors_all_is_as_before(self):
        errors = [
            line(A), line(A, B, C), line(D, some(0, D)), rule(A), rule(A, (2, 4)), rule(A, C), rule(B, some(1, D)),
            normally(A), normally(D, some(0, D)), normally(A, B, NONE), rule(ALL, NONE, 0), line(ALL, NONE, 0),
            always(B), always(D, some(0, D)), always(A, B, NONE), rank(A, B), rank(), rank((2, 4)),
            rank(both(D, some(0, D))), drop(2), drop(3), drop(LARGEST),
        ]
        state = [line(B, A), rule(A, C), rule(B, lacks(C))]
        asked = [
            normally(A, C), normally(B, C), normally(B, lacks(C)), normally(both(A, D), C), normally(C, A),
            always(B, A), always(A, C), rank(B), rank(both(B, C)), ranks(),
        ]
        expected = [[1], [0], [1], [1], [0], [1], [0], [1, 2], [2, 2], [2, 1, 2]]
        self.assertEqual(ask(*state, *asked)[3:], expected)
        for error in errors:
            with self.subTest(error=error):
                given = ask(*state, error, *asked, line(A, D), rule(A, D), drop(1))
                self.assertEqual(len(given[3]), 1)
                self.assertLess(given[3][0], 0)
                self.assertEqual(given[4:], expected + [[1], [2], [2]])

    def test_the_same_errors_again(self):
        # What was refused once is refused again, as nothing has changed in between.
        state = [line(B, A), rule(A, C), rule(B, lacks(C))]
        wrong = [
            drop(2), always(A), rank(A, A), rule(A, C), always(D, some(0, D)), rank(some(0, some(0, D))), normally(B),
        ]
        self.assertEqual(ask(*state, *wrong, *wrong)[3:], [[-2], [-1], [-1], [-4], [-7], [-7], [-1]] * 2)

    def test_errors_between_all_calls(self):
        wrong = [line(A), rule(A, C), normally(), rule(0, 1, 5), line(both(some(0, C), some(1, C)), D)]
        asked = [rule(A, C)]
        for call in (line(B, A), rule(B, lacks(C)), rule(A, D), normally(B, D), normally(B, lacks(C))):
            asked += [call] + wrong
        self.assertEqual(firsts(*asked), [
            0, 0, -1, -4, -1, -1, -7, 1, -1, -4, -1, -1, -7, 2, -1, -4, -1, -1, -7,
            0, -1, -4, -1, -1, -7, 1, -1, -4, -1, -1, -7,
        ])

    def test_atoms_that_were_refused_do_not_count(self):
        asked = [rule(A, B), rule(C, some(0, some(1, ALL))), line(C, some(0, D)), line(C, D), rule(D, A)]
        self.assertEqual(firsts(*asked), [0, -7, -7, 0, 1])
        self.assertEqual(firsts(rule(A, B), line(C, some(0, D)), line(C, D), rule(D, A)), [0, -7, 0, 1])

    def test_a_refused_axiom_takes_no_place(self):
        self.assertEqual(firsts(line(A), line(A, B), line(), line(B, C), line(0), line(C, A), line(1)), [
            -1, 0, -1, 1, -1, 2, -1,
        ])

    def test_a_refused_rule_takes_no_number(self):
        asked = [rule(A, B), rule(A, B), rule(A), rule(B, A), rule(B, A), rule(A, A), rule(B, B), rule(A, B)]
        self.assertEqual(firsts(*asked), [0, -4, -1, 1, -4, 2, 3, -7])


if __name__ == "__main__":
    unittest.main()
