"""The call `drop`: a rule goes, the rules behind it move up, and there is room again."""

import itertools
import unittest

from tests.asking import (
    ALL, NONE, A, B, C, D, always, ask, begins, both, drop, firsts, lacks, line, normally, only, rank, ranks, rule,
    some,
)

LARGEST = 4294967295
# Each rule is an exception to the one ahead of it, so the ranks tell which rules are left.
TWO = both(A, B)
THREE = both(TWO, C)
CHAIN = [rule(ALL, lacks(A)), rule(A, lacks(B)), rule(TWO, lacks(C)), rule(THREE, D)]


class Dropped(unittest.TestCase):
    def test_the_first_rule(self):
        self.assertEqual(ask(*CHAIN, drop(0), ranks(), rank(ALL), rank(A))[4:], [[3], [3, 1, 2, 3], [0, 3], [0, 3]])

    def test_a_middle_rule(self):
        self.assertEqual(ask(*CHAIN, drop(1), ranks(), normally(A, lacks(B)))[4:], [[3], [3, 1, 2, 3], [0]])
        self.assertEqual(ask(*CHAIN, drop(2), ranks(), normally(TWO, lacks(C)))[4:], [[3], [3, 1, 2, 3], [0]])

    def test_the_last_rule(self):
        self.assertEqual(ask(*CHAIN, drop(3), ranks(), normally(THREE, D))[4:], [[3], [3, 1, 2, 3], [0]])
        self.assertEqual(ask(rule(A, B), drop(0), ranks(), normally(A, B)), [[0], [0], [0], [0]])

    def test_what_is_left_is_as_without_the_rule(self):
        concepts = [ALL, NONE, A, B, TWO, THREE, both(A, C), lacks(A)]
        pairs = list(itertools.product(concepts, repeat=2))
        for number in range(4):
            left = CHAIN[:number] + CHAIN[number + 1:]
            asked = [ranks()] + [rank(concept) for concept in concepts]
            asked += [normally(*pair) for pair in pairs] + [always(*pair) for pair in pairs]
            with self.subTest(number=number):
                self.assertEqual(ask(*CHAIN, drop(number), *asked)[5:], ask(*left, *asked)[3:])

    def test_how_many_are_left(self):
        for numbers in [(0, 0, 0, 0), (3, 2, 1, 0), (1, 1, 1, 0), (2, 0, 1, 0), (0, 2, 0, 0)]:
            with self.subTest(numbers=numbers):
                self.assertEqual(firsts(*CHAIN, *[drop(number) for number in numbers])[4:], [3, 2, 1, 0])

    def test_the_numbers_behind_it_decrease(self):
        # After the second rule went, 1 is the number of what was the third one.
        self.assertEqual(ask(*CHAIN, drop(1), drop(1), ranks(), normally(TWO, lacks(C)), normally(THREE, D))[4:], [
            [3], [2], [2, 1, 2], [0], [1],
        ])
        self.assertEqual(ask(*CHAIN, drop(0), drop(2), ranks(), normally(THREE, D), normally(A, lacks(B)))[4:], [
            [3], [2], [2, 1, 2], [0], [1],
        ])
        self.assertEqual(firsts(*CHAIN, drop(0), drop(3), drop(2))[4:], [3, -2, 2])

    def test_a_rule_added_behind_it_is_the_last(self):
        asked = [drop(0), rule(ALL, lacks(A)), ranks(), drop(3), ranks()]
        self.assertEqual(ask(*CHAIN, *asked)[4:], [[3], [3], [4, 2, 3, 4, 1], [3], [3, 1, 2, 3]])

    def test_axioms_stay(self):
        asked = [line(B, A), rule(A, C), rule(C, D), drop(0), always(B, A), drop(0), always(B, A), line(C, D)]
        self.assertEqual(firsts(*asked), [0, 0, 1, 1, 1, 0, 1, 1])

    def test_dropping_is_not_beginning_again(self):
        asked = [rule(A, B), line(A, C), drop(0), line(C, A), normally(A, C), normally(C, A), normally(A, B)]
        self.assertEqual(firsts(*asked), [0, 0, 0, 1, 1, 1, 0])


class NoSuchRule(unittest.TestCase):
    def test_without_rules(self):
        for index in (0, 1, 3, 4, LARGEST):
            self.assertEqual(ask(drop(index)), [[-2]])
            self.assertEqual(ask(line(A, B), line(B, C), drop(index))[-1], [-2])
            self.assertEqual(ask(rule(A, B), begins(), drop(index))[-1], [-2])
            self.assertEqual(ask(rule(A, B), drop(0), drop(index))[-1], [-2])

    def test_an_index_behind_the_last_rule(self):
        for amount in range(1, 5):
            for index in (amount, amount + 1, 9, 255, 65536, LARGEST - 1, LARGEST):
                with self.subTest(amount=amount, index=index):
                    asked = CHAIN[:amount] + [drop(index), ranks(), drop(amount - 1)]
                    self.assertEqual(ask(*asked)[amount:], [
                        [-2], [amount] + list(range(1, amount + 1)), [amount - 1],
                    ])

    def test_a_rule_that_was_refused_has_no_number(self):
        self.assertEqual(firsts(rule(A, B), rule(A, B), rule(A), drop(1), drop(0), drop(0)), [0, -4, -1, -2, 0, -2])


class RoomAgain(unittest.TestCase):
    def test_for_other_atoms(self):
        full = [rule(A, B), rule(C, D)]
        for call in (line, rule, normally, always):
            with self.subTest(call=call.__name__):
                refused, taken = firsts(*full, call(some(0, A), B), drop(1), call(some(0, A), B))[2::2]
                self.assertEqual(refused, -7)
                self.assertGreaterEqual(taken, 0)
        asked = [rank(some(0, A)), drop(0), rank(some(0, A)), drop(0), rank(both(some(0, A), some(1, B)))]
        self.assertEqual(ask(*full, *asked)[2:], [[-7], [1], [0, 1], [0], [0, 0]])

    def test_only_atoms_of_that_rule_alone(self):
        asked = [line(A, B), rule(B, C), rule(C, D), drop(0), line(A, some(0, A)), drop(0), line(A, some(0, A))]
        self.assertEqual(firsts(*asked), [0, 0, 1, 1, -7, 0, 1])

    def test_for_atoms_inside_of_others(self):
        asked = [rule(some(0, some(1, A)), B), rule(C, C), drop(0), rule(C, only(0, only(1, D))), rule(A, D)]
        self.assertEqual(firsts(*asked), [0, -7, 0, 0, -7])
        asked = [rule(some(0, some(1, A)), B), drop(0), rule(C, only(0, only(1, D))), rule(A, D), rule(C, D)]
        self.assertEqual(firsts(*asked), [0, 0, 0, -7, 1])

    def test_for_a_fifth_rule(self):
        self.assertEqual(firsts(*CHAIN, rule(A, D), drop(2), rule(A, D), rule(A, C))[4:], [-7, 3, 3, -7])

    def test_for_an_equal_rule(self):
        self.assertEqual(firsts(rule(A, B), rule(B, C), rule(A, B), drop(0), rule(A, B), rule(A, B)), [
            0, 1, -4, 1, 1, -4,
        ])
        self.assertEqual(firsts(rule(A, B), rule(B, C), drop(0), rule(B, C), drop(0), rule(B, C)), [
            0, 1, 1, -4, 0, 0,
        ])

    def test_not_for_a_fourth_axiom(self):
        asked = [line(A, B), line(B, C), line(C, A), rule(A, D), drop(0), line(A, C)]
        self.assertEqual(firsts(*asked), [0, 1, 2, 0, 0, -7])


class RanksAfterwards(unittest.TestCase):
    def test_an_endless_rule_goes(self):
        asked = [rule(A, B), rule(A, lacks(B)), rule(C, A), ranks(), drop(1), ranks(), normally(A, B), always(A, NONE)]
        self.assertEqual(ask(*asked)[3:], [[0, 0, 0, 0], [2], [1, 1, 1], [1], [0]])

    def test_no_exception_is_left(self):
        state = [line(B, A), rule(A, C), rule(B, lacks(C)), rule(A, D)]
        self.assertEqual(ask(*state, normally(B, D), drop(1), normally(B, D), rank(B))[4:], [[0], [2], [1], [0, 1]])


if __name__ == "__main__":
    unittest.main()
