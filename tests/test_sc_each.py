import unittest

from bychance.claims import sc_each
from helper import HIGHEST, LOWEST, Made
from helper import add, code_of, less, number, power_gates, product_of_variables, times, variable
from helper import check_call, made_circuit, most_terms, refused_circuits


class Ordinary(unittest.TestCase):
    def test_single_gates(self):
        self.assertEqual(sc_each(1, code_of(number(5))), [0])
        self.assertEqual(sc_each(1, code_of(variable(0))), [1])
        for a in range(3):
            self.assertEqual(sc_each(3, code_of(variable(a))), [1])

    def test_different_variables_are_not_added_together(self):
        both = [variable(0), variable(1)]
        for make in (add, less, times):
            self.assertEqual(sc_each(2, code_of(*both, make(0, 1))), [1])
        self.assertEqual(sc_each(12, code_of(*product_of_variables(12))), [1])

    def test_the_same_variable_is(self):
        self.assertEqual(sc_each(1, code_of(variable(0), times(0, 0))), [2])
        self.assertEqual(sc_each(1, code_of(variable(0), variable(0), times(0, 1))), [2])
        self.assertEqual(sc_each(1, code_of(variable(0), add(0, 0))), [1])

    def test_the_greatest_over_the_variables(self):
        # x0 x1^3 x2^2, with the variables in each order.
        for order in ((0, 1, 2), (0, 2, 1), (1, 0, 2), (1, 2, 0), (2, 0, 1), (2, 1, 0)):
            one, three, two = order
            gates = [variable(one), variable(three), variable(two),
                     times(0, 1), times(3, 1), times(4, 1), times(5, 2), times(6, 2)]
            self.assertEqual(sc_each(3, code_of(*gates)), [3])

    def test_of_a_sum_or_difference_the_greater_in_each_variable(self):
        # x0^2 and x0 x1^3: 3 in the second variable.
        gates = [variable(0), variable(1), times(0, 0), times(1, 1), times(3, 1), times(4, 0)]
        for make in (add, less):
            self.assertEqual(sc_each(2, code_of(*gates, make(2, 5))), [3])
            self.assertEqual(sc_each(2, code_of(*gates, make(5, 2))), [3])
        self.assertEqual(sc_each(2, code_of(*gates, times(2, 5))), [3])
        self.assertEqual(sc_each(2, code_of(*gates, times(2, 5), times(6, 0))), [4])

    def test_what_cancels_counts_all_the_same(self):
        self.assertEqual(sc_each(1, code_of(variable(0), times(0, 0), less(1, 1))), [2])
        self.assertEqual(sc_each(1, code_of(variable(0), number(0), times(0, 1))), [1])

    def test_a_last_gate_whose_degrees_are_less_than_another_gates(self):
        self.assertEqual(sc_each(1, code_of(variable(0), times(0, 0), number(5))), [0])
        self.assertEqual(sc_each(2, code_of(variable(0), times(0, 0), variable(1))), [1])
        fifteen = [variable(0), *power_gates(0, 15, 1)]
        self.assertEqual(sc_each(1, code_of(*fifteen, add(3, 2))), [4])
        self.assertEqual(sc_each(1, code_of(*fifteen, times(3, 2))), [7])

    def test_against_the_expanded_polynomial(self):
        made = Made(17)
        seen = {}
        for _ in range(400):
            n = 1 + made.below(4)
            code = made_circuit(made, n)
            answer = sc_each(n, code)
            if answer != [-3]:
                self.assertEqual(answer, [max(max(exponents) for exponents in most_terms(code, n))])
                seen[answer[0]] = True
        self.assertGreater(len(seen), 6)


class Edges(unittest.TestCase):
    def test_each_degree_from_1_to_15_and_not_16(self):
        for n in (1, 2, 12):
            for a in range(n):
                for exponent in range(1, 16):
                    gates = [variable(a), *power_gates(0, exponent, 1)]
                    self.assertEqual(sc_each(n, code_of(*gates)), [exponent])
                sixteen = [variable(a), *power_gates(0, 16, 1)]
                self.assertEqual(sc_each(n, code_of(*sixteen)), [-3])
                self.assertEqual(sc_each(n, code_of(*sixteen, variable(a))), [-3])
                self.assertEqual(sc_each(n, code_of(*sixteen, number(0))), [-3])

    def test_fifteen_in_all_twelve(self):
        gates = product_of_variables(12)
        gates = [*gates, *power_gates(22, 15, 23)]
        self.assertEqual(sc_each(12, code_of(*gates)), [15])
        for a in range(12):
            self.assertEqual(sc_each(12, code_of(*gates, times(len(gates) - 1, a))), [-3])

    def test_one_and_sixty_four_gates(self):
        gates = [variable(0), *[add(place, place) for place in range(62)], times(62, 62)]
        self.assertEqual(len(gates), 64)
        self.assertEqual(sc_each(1, code_of(*gates)), [2])
        self.assertEqual(sc_each(12, code_of(variable(11))), [1])

    def test_numbers(self):
        self.assertEqual(sc_each(1, code_of(number(65520))), [0])
        self.assertEqual(sc_each(1, code_of(number(65521))), [-3])
        self.assertEqual(sc_each(1, code_of(number(65535))), [-3])


class Refused(unittest.TestCase):
    def test_n_out_of_its_range(self):
        for n in (0, 13, -1, -12, 14, 256, HIGHEST, LOWEST):
            self.assertEqual(sc_each(n, code_of(number(3))), [-2])
            self.assertEqual(sc_each(n, code_of(variable(0))), [-2])

    def test_no_gate(self):
        for n in (1, 12, 0, 13, -1):
            self.assertEqual(sc_each(n, []), [-2])

    def test_more_gates_than_sixty_four(self):
        # The interface hands in none so long; promise 1 names the bound.
        self.assertEqual(sc_each(1, code_of(*[variable(0)] * 64)), [1])
        self.assertEqual(sc_each(1, code_of(*[variable(0)] * 65)), [-2])

    def test_what_is_no_circuit(self):
        for n, code in refused_circuits():
            self.assertEqual(sc_each(n, code), [-3], (n, code))

    def test_both_at_once(self):
        for n, code in refused_circuits():
            for wrong in (0, 13, -1):
                self.assertEqual(sc_each(wrong, code), [-2], (wrong, code))


class HandedIn(unittest.TestCase):
    def test_unchanged_and_the_same_again(self):
        good = code_of(variable(0), variable(1), less(0, 1), times(2, 2))
        check_call(self, sc_each, (2, good), [2])
        check_call(self, sc_each, (2, code_of(variable(2))), [-3])
        check_call(self, sc_each, (0, good), [-2])
        check_call(self, sc_each, (2, []), [-2])
        check_call(self, sc_each, (2, good), [2])


if __name__ == "__main__":
    unittest.main()
