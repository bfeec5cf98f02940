import unittest

from bychance.claims import sc_total
from helper import HIGHEST, LOWEST, PRIME, Made
from helper import add, code_of, less, number, power_gates, product_of_variables, times, variable
from helper import check_call, expanded, made_circuit, refused_circuits


def total_of_terms(terms):
    """Each term is its factor where all its variables are 1, and 0 at the other rows."""
    total = 0
    for exponents, factor in terms.items():
        total += factor * 2 ** exponents.count(0)
    return total % PRIME


class Ordinary(unittest.TestCase):
    def test_a_variable_is_1_at_half_the_rows(self):
        self.assertEqual(sc_total(1, code_of(variable(0))), [1])
        for n in range(1, 13):
            for a in (0, n - 1):
                self.assertEqual(sc_total(n, code_of(variable(a))), [2 ** (n - 1)])

    def test_a_number_counts_at_every_row(self):
        self.assertEqual(sc_total(1, code_of(number(5))), [10])
        self.assertEqual(sc_total(3, code_of(number(5))), [40])
        self.assertEqual(sc_total(3, code_of(number(0))), [0])

    def test_two_variables_worked_by_hand(self):
        both = [variable(0), variable(1)]
        self.assertEqual(sc_total(2, code_of(*both, add(0, 1))), [4])
        self.assertEqual(sc_total(2, code_of(*both, times(0, 1))), [1])
        # x0 - x1 is 0, -1, 1, 0 at the four rows.
        self.assertEqual(sc_total(2, code_of(*both, less(0, 1))), [0])
        # Squared that is 0, 1, 1, 0.
        self.assertEqual(sc_total(2, code_of(*both, less(0, 1), times(2, 2))), [2])

    def test_variables_that_are_not_alike(self):
        # x0 + 10 x1 + 100 x0 x1 is 0, 1, 10, 111 at the four rows.
        gates = [variable(0), variable(1), times(0, 1), number(10), number(100),
                 times(1, 3), times(2, 4), add(0, 5), add(7, 6)]
        self.assertEqual(sc_total(2, code_of(*gates)), [122])
        # With a third variable that isn't named, each of these comes twice.
        self.assertEqual(sc_total(3, code_of(*gates)), [244])

    def test_three_variables_worked_by_hand(self):
        # (x0 + x1) (x1 + x2) is 0 0 1 2 0 1 2 4 at 000, 001, 010, 011, 100, 101, 110, 111.
        gates = [variable(0), variable(1), variable(2), add(0, 1), add(1, 2), times(3, 4)]
        self.assertEqual(sc_total(3, code_of(*gates)), [10])

    def test_the_last_gate_counts(self):
        self.assertEqual(sc_total(1, code_of(variable(0), times(0, 0), number(5))), [10])
        self.assertEqual(sc_total(2, code_of(number(5), variable(0))), [2])

    def test_against_the_expanded_polynomial(self):
        made = Made(5)
        answered = 0
        for _ in range(300):
            n = 1 + made.below(5)
            code = made_circuit(made, n)
            answer = sc_total(n, code)
            if answer != [-3]:
                answered += 1
                self.assertEqual(answer, [total_of_terms(expanded(code, n))])
        self.assertGreater(answered, 250)


class Edges(unittest.TestCase):
    def test_a_total_over_65520(self):
        self.assertEqual(sc_total(1, code_of(number(65520))), [65519])
        # 32760 twice is 65520, 32761 twice is 65522.
        self.assertEqual(sc_total(1, code_of(number(32760))), [65520])
        self.assertEqual(sc_total(1, code_of(number(32761))), [1])
        self.assertEqual(sc_total(12, code_of(number(65520))), [65521 - 4096])
        # 4096 times 16 is 65536.
        self.assertEqual(sc_total(12, code_of(number(16))), [15])

    def test_a_sum_within_the_circuit_over_65520(self):
        # x0 + 65520 is -1 and 0.
        self.assertEqual(sc_total(1, code_of(variable(0), number(65520), add(0, 1))), [65520])

    def test_a_difference_below_0(self):
        # x0 - 1 is -1 and 0; 0 - x0 is 0 and -1; x0 - 3 is -3 and -2.
        self.assertEqual(sc_total(1, code_of(variable(0), number(1), less(0, 1))), [65520])
        self.assertEqual(sc_total(1, code_of(variable(0), number(0), less(1, 0))), [65520])
        self.assertEqual(sc_total(1, code_of(variable(0), number(3), less(0, 1))), [65516])

    def test_twelve_variables(self):
        self.assertEqual(sc_total(12, code_of(*product_of_variables(12))), [1])
        gates = [variable(a) for a in range(12)]
        last = 0
        for a in range(1, 12):
            gates.append(add(last, a))
            last = len(gates) - 1
        # Each variable is 1 at 2048 of the rows.
        self.assertEqual(sc_total(12, code_of(*gates)), [12 * 2048])
        # The sum's square: 12 times 2048 for each with itself, 132 times 1024 for two that differ.
        self.assertEqual(sc_total(12, code_of(*gates, times(last, last))), [(12 * 2048 + 132 * 1024) % PRIME])

    def test_one_gate_and_sixty_four(self):
        self.assertEqual(sc_total(1, code_of(variable(0))), [1])
        code = code_of(variable(0), *[add(place, place) for place in range(63)])
        self.assertEqual(len(code), 256)
        self.assertEqual(sc_total(1, code), [2 ** 63 % PRIME])

    def test_the_greatest_degrees(self):
        gates = product_of_variables(12)
        gates = [*gates, *power_gates(22, 15, 23)]
        self.assertEqual(sc_total(12, code_of(*gates)), [1])
        self.assertEqual(sc_total(12, code_of(*gates, times(len(gates) - 1, 0))), [-3])
        fifteen = [variable(0), *power_gates(0, 15, 1)]
        self.assertEqual(sc_total(1, code_of(*fifteen)), [1])
        self.assertEqual(sc_total(1, code_of(*fifteen, times(14, 0))), [-3])
        self.assertEqual(sc_total(1, code_of(*fifteen, times(14, 0), variable(0))), [-3])
        self.assertEqual(sc_total(1, code_of(*fifteen, variable(0))), [1])


class Refused(unittest.TestCase):
    def test_n_out_of_its_range(self):
        for n in (0, 13, -1, -12, 14, 256, HIGHEST, LOWEST):
            self.assertEqual(sc_total(n, code_of(number(3))), [-2])
            self.assertEqual(sc_total(n, code_of(variable(0))), [-2])

    def test_no_gate(self):
        for n in (1, 12, 0, 13, -1):
            self.assertEqual(sc_total(n, []), [-2])

    def test_more_gates_than_sixty_four(self):
        # The interface hands in none so long; promise 1 names the bound.
        self.assertEqual(sc_total(1, code_of(*[variable(0)] * 64)), [1])
        self.assertEqual(sc_total(1, code_of(*[variable(0)] * 65)), [-2])

    def test_what_is_no_circuit(self):
        for n, code in refused_circuits():
            self.assertEqual(sc_total(n, code), [-3], (n, code))

    def test_both_at_once(self):
        for n, code in refused_circuits():
            for wrong in (0, 13, -1):
                self.assertEqual(sc_total(wrong, code), [-2], (wrong, code))


class HandedIn(unittest.TestCase):
    def test_unchanged_and_the_same_again(self):
        good = code_of(variable(0), variable(1), less(0, 1), times(2, 2))
        check_call(self, sc_total, (2, good), [2])
        check_call(self, sc_total, (2, code_of(variable(2))), [-3])
        check_call(self, sc_total, (0, good), [-2])
        check_call(self, sc_total, (2, []), [-2])
        check_call(self, sc_total, (2, good), [2])


if __name__ == "__main__":
    unittest.main()
