import unittest

from bychance.claims import ch_degree
from helper import HIGHEST, LOWEST, Made
from helper import add, code_of, less, number, power_gates, product_of_variables, times, variable
from helper import check_call, made_circuit, most_terms, refused_circuits


class Ordinary(unittest.TestCase):
    def test_single_gates(self):
        self.assertEqual(ch_degree(1, code_of(variable(0))), [1])
        for a in range(3):
            self.assertEqual(ch_degree(3, code_of(variable(a))), [1])
        self.assertEqual(ch_degree(1, code_of(number(0))), [0])
        self.assertEqual(ch_degree(1, code_of(number(5))), [0])

    def test_of_a_sum_or_difference_the_greater(self):
        for make in (add, less):
            self.assertEqual(ch_degree(2, code_of(variable(0), variable(1), make(0, 1))), [1])
            self.assertEqual(ch_degree(1, code_of(variable(0), number(3), make(0, 1))), [1])
            self.assertEqual(ch_degree(1, code_of(variable(0), number(3), make(1, 0))), [1])
            self.assertEqual(ch_degree(1, code_of(number(2), number(3), make(1, 0))), [0])
            cubed = [variable(0), *power_gates(0, 3, 1), variable(1)]
            self.assertEqual(ch_degree(2, code_of(*cubed, make(2, 3))), [3])
            self.assertEqual(ch_degree(2, code_of(*cubed, make(3, 2))), [3])

    def test_of_a_product_both_together(self):
        self.assertEqual(ch_degree(2, code_of(variable(0), variable(1), times(0, 1))), [2])
        self.assertEqual(ch_degree(1, code_of(variable(0), times(0, 0))), [2])
        self.assertEqual(ch_degree(1, code_of(variable(0), number(3), times(0, 1))), [1])
        self.assertEqual(ch_degree(1, code_of(number(2), number(3), times(0, 1))), [0])
        for exponent in range(1, 16):
            self.assertEqual(ch_degree(1, code_of(variable(0), *power_gates(0, exponent, 1))), [exponent])

    def test_of_several_variables_all_together(self):
        # x0 x1 x1, of degree 3, and x2 x2: 3 is the greater, 5 both together.
        gates = [variable(0), variable(1), times(0, 1), times(2, 1), variable(2), times(4, 4)]
        self.assertEqual(ch_degree(3, code_of(*gates)), [2])
        self.assertEqual(ch_degree(3, code_of(*gates, add(3, 5))), [3])
        self.assertEqual(ch_degree(3, code_of(*gates, less(5, 3))), [3])
        self.assertEqual(ch_degree(3, code_of(*gates, times(3, 5))), [5])

    def test_what_cancels_counts_all_the_same(self):
        self.assertEqual(ch_degree(1, code_of(variable(0), times(0, 0), less(1, 1))), [2])
        self.assertEqual(ch_degree(1, code_of(variable(0), number(0), times(0, 1))), [1])

    def test_a_last_gate_whose_degree_is_less_than_another_gates(self):
        self.assertEqual(ch_degree(1, code_of(variable(0), times(0, 0), number(5))), [0])
        self.assertEqual(ch_degree(1, code_of(variable(0), times(0, 0), variable(0))), [1])
        gates = [variable(0), *power_gates(0, 15, 1)]
        self.assertEqual(ch_degree(1, code_of(*gates, add(3, 2))), [4])
        self.assertEqual(ch_degree(1, code_of(*gates, times(3, 2))), [7])

    def test_against_the_expanded_polynomial(self):
        made = Made(11)
        seen = {}
        for _ in range(400):
            n = 1 + made.below(4)
            code = made_circuit(made, n)
            answer = ch_degree(n, code)
            if answer != [-3]:
                terms = most_terms(code, n)
                self.assertEqual(answer, [max(sum(exponents) for exponents in terms)])
                seen[answer[0]] = True
        self.assertGreater(len(seen), 6)


class Edges(unittest.TestCase):
    def test_one_and_twelve_variables(self):
        self.assertEqual(ch_degree(1, code_of(variable(0))), [1])
        for a in range(12):
            self.assertEqual(ch_degree(12, code_of(variable(a))), [1])
        self.assertEqual(ch_degree(12, code_of(*product_of_variables(12))), [12])

    def test_the_greatest_degree_there_is(self):
        gates = product_of_variables(12)
        gates = [*gates, *power_gates(22, 15, 23)]
        self.assertEqual(ch_degree(12, code_of(*gates)), [180])
        for a in range(12):
            self.assertEqual(ch_degree(12, code_of(*gates, times(len(gates) - 1, a))), [-3])

    def test_sixty_four_gates(self):
        gates = [variable(0), *[add(place, place) for place in range(62)], times(62, 62)]
        self.assertEqual(len(gates), 64)
        self.assertEqual(ch_degree(1, code_of(*gates)), [2])

    def test_the_greatest_number(self):
        self.assertEqual(ch_degree(1, [1, 0, 0xF0, 0xFF]), [0])
        self.assertEqual(ch_degree(1, [1, 0, 0xF1, 0xFF]), [-3])
        self.assertEqual(ch_degree(1, [1, 0, 0xFF, 0xFF]), [-3])

    def test_fifteen_and_sixteen_in_one_variable(self):
        for n in (1, 2, 12):
            for a in range(n):
                fifteen = [variable(a), *power_gates(0, 15, 1)]
                self.assertEqual(ch_degree(n, code_of(*fifteen)), [15])
                self.assertEqual(ch_degree(n, code_of(*fifteen, times(14, 0))), [-3])
                self.assertEqual(ch_degree(n, code_of(*fifteen, times(14, 0), variable(a))), [-3])
                self.assertEqual(ch_degree(n, code_of(*fifteen, number(0))), [0])

    def test_more_than_fifteen_over_several_variables(self):
        gates = [variable(0), *power_gates(0, 15, 1), variable(1), times(14, 15)]
        self.assertEqual(ch_degree(2, code_of(*gates)), [16])


class Refused(unittest.TestCase):
    def test_n_out_of_its_range(self):
        for n in (0, 13, -1, -12, 14, 256, HIGHEST, LOWEST):
            self.assertEqual(ch_degree(n, code_of(number(3))), [-2])
            self.assertEqual(ch_degree(n, code_of(variable(0))), [-2])

    def test_no_gate(self):
        for n in (1, 12, 0, 13, -1):
            self.assertEqual(ch_degree(n, []), [-2])

    def test_more_gates_than_sixty_four(self):
        # The interface hands in none so long; promise 1 names the bound.
        self.assertEqual(ch_degree(1, code_of(*[variable(0)] * 64)), [1])
        self.assertEqual(ch_degree(1, code_of(*[variable(0)] * 65)), [-2])

    def test_what_is_no_circuit(self):
        for n, code in refused_circuits():
            self.assertEqual(ch_degree(n, code), [-3], (n, code))

    def test_both_at_once(self):
        for n, code in refused_circuits():
            for wrong in (0, 13, -1):
                self.assertEqual(ch_degree(wrong, code), [-2], (wrong, code))


class HandedIn(unittest.TestCase):
    def test_unchanged_and_the_same_again(self):
        good = code_of(variable(0), variable(1), less(0, 1), times(2, 2))
        check_call(self, ch_degree, (2, good), [2])
        check_call(self, ch_degree, (2, code_of(variable(2))), [-3])
        check_call(self, ch_degree, (0, good), [-2])
        check_call(self, ch_degree, (2, []), [-2])
        check_call(self, ch_degree, (2, good), [2])


if __name__ == "__main__":
    unittest.main()
