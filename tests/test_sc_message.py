import unittest

from bychance.claims import sc_each, sc_message, sc_total
from helper import HIGHEST, LOWEST, PRIME, Made
from helper import add, code_of, less, number, power_gates, product_of_variables, times, variable
from helper import check_call, expanded, made_circuit, message_of_terms, most_terms, refused_circuits


def message(*values):
    """As it is answered: how many values there are, these, and 0s up to sixteen."""
    return [len(values), *values, *[0] * (16 - len(values))]


class Ordinary(unittest.TestCase):
    def test_one_variable(self):
        self.assertEqual(sc_message(1, 0, code_of(variable(0)), []), message(0, 1))
        self.assertEqual(sc_message(1, 0, code_of(variable(0), times(0, 0)), []), message(0, 1, 4))
        # x0^3 + 7
        gates = [variable(0), *power_gates(0, 3, 1), number(7), add(2, 3)]
        self.assertEqual(sc_message(1, 0, code_of(*gates), []), message(7, 8, 15, 34))

    def test_written_out(self):
        self.assertEqual(
            sc_message(1, 0, code_of(variable(0)), []), [2, 0, 1, 0, 0, 0, 0, 0, 0, 0, 0, 0, 0, 0, 0, 0, 0])

    def test_a_product_of_two(self):
        code = code_of(variable(0), variable(1), times(0, 1))
        self.assertEqual(sc_message(2, 0, code, []), message(0, 1))
        self.assertEqual(sc_message(2, 1, code, [5]), message(0, 5))
        self.assertEqual(sc_message(2, 1, code, [0]), message(0, 0))

    def test_variables_that_are_not_alike(self):
        # x0^2 + 10 x1 + 100 x2 over three variables; d is 2 though x1 and x2 come once.
        gates = [variable(0), variable(1), variable(2), times(0, 0), number(10), number(100),
                 times(1, 4), times(2, 5), add(3, 6), add(8, 7)]
        code = code_of(*gates)
        # 4 x0^2 and 10 twice and 100 twice.
        self.assertEqual(sc_message(3, 0, code, []), message(220, 224, 236))
        # At x0 = 3: 2 times (9 + 10 x1), and 100 once.
        self.assertEqual(sc_message(3, 1, code, [3]), message(118, 138, 158))
        # At x0 = 3, x1 = 4: 9 + 40 + 100 x2.
        self.assertEqual(sc_message(3, 2, code, [3, 4]), message(49, 149, 249))
        self.assertEqual(sc_message(3, 2, code, [4, 3]), message(46, 146, 246))

    def test_as_many_values_as_the_greatest_degree_of_all_variables(self):
        # x0 + x1^3: four values for either variable.
        gates = [variable(0), variable(1), times(1, 1), times(2, 1), add(0, 3)]
        self.assertEqual(sc_message(2, 0, code_of(*gates), []), message(1, 3, 5, 7))
        self.assertEqual(sc_message(2, 1, code_of(*gates), [10]), message(10, 11, 18, 37))

    def test_a_variable_that_is_not_named(self):
        code = code_of(variable(1))
        self.assertEqual(sc_message(3, 0, code, []), message(2, 2))
        self.assertEqual(sc_message(3, 1, code, [9]), message(0, 2))
        self.assertEqual(sc_message(3, 2, code, [9, 8]), message(8, 8))

    def test_sums_over_65520_and_differences_below_0(self):
        # x0 - 1 with a variable behind it: twice -1, twice 0.
        gates = [variable(0), number(1), less(0, 1)]
        self.assertEqual(sc_message(2, 0, code_of(*gates), []), message(65519, 0))
        self.assertEqual(sc_message(2, 1, code_of(*gates), [0]), message(65520, 65520))
        self.assertEqual(sc_message(2, 0, code_of(number(40000)), []), message(14479))
        # 15 to the fifteenth is 437893890380859375.
        fifteen = [variable(0), *power_gates(0, 15, 1)]
        self.assertEqual(sc_message(1, 0, code_of(*fifteen), [])[16], 437893890380859375 % 65521)

    def test_a_last_gate_whose_degrees_are_less_than_another_gates(self):
        fifteen = [variable(0), *power_gates(0, 15, 1)]
        self.assertEqual(sc_message(1, 0, code_of(*fifteen, variable(0)), []), message(0, 1))
        self.assertEqual(sc_message(1, 0, code_of(*fifteen, number(6)), []), message(6))
        self.assertEqual(sc_message(1, 0, code_of(*fifteen, add(1, 0)), []), message(0, 2, 6))

    def test_what_cancels_counts_all_the_same(self):
        code = code_of(variable(0), times(0, 0), less(1, 1))
        self.assertEqual(sc_message(1, 0, code, []), message(0, 0, 0))

    def test_against_the_expanded_polynomial(self):
        made = Made(23)
        answered = 0
        for _ in range(300):
            n = 1 + made.below(4)
            code = made_circuit(made, n)
            i = made.below(n)
            r = made.numbers(i)
            answer = sc_message(n, i, code, r)
            if answer != [-3]:
                answered += 1
                d = max(max(exponents) for exponents in most_terms(code, n))
                self.assertEqual(answer, message(*message_of_terms(expanded(code, n), d, r)))
        self.assertGreater(answered, 250)

    def test_each_message_leads_to_the_next(self):
        made = Made(29)
        for _ in range(60):
            n = 2 + made.below(4)
            code = made_circuit(made, n)
            if sc_each(n, code)[0] < 1:
                continue
            d = sc_each(n, code)[0]
            first = sc_message(n, 0, code, [])
            self.assertEqual([(first[1] + first[2]) % PRIME], sc_total(n, code))
            r = []
            for i in range(1, n):
                # One of the places that the message before tells of.
                r.append(made.below(d + 1))
                before = sc_message(n, i - 1, code, r[:-1])
                after = sc_message(n, i, code, r)
                self.assertEqual((after[1] + after[2]) % PRIME, before[1 + r[-1]])


class Edges(unittest.TestCase):
    def test_d_of_0(self):
        self.assertEqual(sc_message(1, 0, code_of(number(9)), []), message(9))
        self.assertEqual(sc_message(3, 0, code_of(number(9)), []), message(36))
        self.assertEqual(sc_message(3, 1, code_of(number(9)), [5]), message(18))
        self.assertEqual(sc_message(3, 2, code_of(number(9)), [5, 6]), message(9))

    def test_d_of_15_leaves_no_0s(self):
        fifteen = [variable(0), *power_gates(0, 15, 1)]
        answer = sc_message(1, 0, code_of(*fifteen), [])
        self.assertEqual(answer, [16] + [value ** 15 % PRIME for value in range(16)])
        self.assertEqual(len(answer), 17)
        fourteen = code_of(*fifteen, add(13, 13))
        self.assertEqual(
            sc_message(1, 0, fourteen, []), [15] + [2 * value ** 14 % PRIME for value in range(15)] + [0])

    def test_always_sixteen_numbers_behind(self):
        for exponent in range(1, 16):
            gates = [variable(1), *power_gates(0, exponent, 1)]
            for i, r in ((0, []), (1, [3])):
                answer = sc_message(2, i, code_of(*gates), r)
                self.assertEqual(len(answer), 17)
                self.assertEqual(answer[0], exponent + 1)
                self.assertEqual(answer[exponent + 2:], [0] * (15 - exponent))

    def test_twelve_variables(self):
        code = code_of(*product_of_variables(12))
        self.assertEqual(sc_message(12, 0, code, []), message(0, 1))
        r = [2] * 11
        for i in range(12):
            self.assertEqual(sc_message(12, i, code, r[:i]), message(0, 2 ** i))
        self.assertEqual(sc_message(12, 0, code_of(variable(11)), []), message(1024, 1024))
        self.assertEqual(sc_message(12, 11, code_of(variable(11)), [0] * 11), message(0, 1))
        self.assertEqual(sc_message(12, 0, code_of(variable(0)), []), message(0, 2048))

    def test_fifteen_in_all_twelve(self):
        gates = product_of_variables(12)
        code = code_of(*gates, *power_gates(22, 15, 23))
        self.assertEqual(sc_message(12, 0, code, []), [16] + [value ** 15 % PRIME for value in range(16)])
        self.assertEqual(
            sc_message(12, 11, code, [1] * 10 + [2]),
            [16] + [(2 * value) ** 15 % PRIME for value in range(16)])

    def test_the_greatest_numbers_of_r(self):
        code = code_of(variable(0), variable(1), times(0, 1))
        self.assertEqual(sc_message(2, 1, code, [65520]), message(0, 65520))
        for value in (65521, 65535):
            self.assertEqual(sc_message(2, 1, code, [value]), [-3])
            for place in range(11):
                r = [0] * 11
                r[place] = value
                self.assertEqual(sc_message(12, 11, code, r), [-3])
                self.assertEqual(sc_message(12, 11, code_of(number(5)), r), [-3])

    def test_sixty_four_gates(self):
        code = code_of(variable(0), *[add(place, place) for place in range(63)])
        self.assertEqual(sc_message(1, 0, code, []), message(0, 2 ** 63 % PRIME))


class Refused(unittest.TestCase):
    def test_n_out_of_its_range(self):
        for n in (0, 13, -1, -12, 14, 256, HIGHEST, LOWEST):
            for i in (0, 1, -1, n - 1, n, HIGHEST, LOWEST):
                if LOWEST <= i:
                    self.assertEqual(sc_message(n, i, code_of(number(3)), []), [-2])

    def test_i_out_of_its_range(self):
        for n in range(1, 13):
            for i in (n, n + 1, -1, -n, 12, HIGHEST, LOWEST):
                self.assertEqual(sc_message(n, i, code_of(variable(0)), []), [-2])

    def test_no_gate(self):
        self.assertEqual(sc_message(1, 0, [], []), [-2])
        self.assertEqual(sc_message(12, 11, [], [0] * 11), [-2])
        self.assertEqual(sc_message(0, 0, [], []), [-2])
        self.assertEqual(sc_message(1, 1, [], []), [-2])

    def test_more_gates_than_sixty_four(self):
        # The interface hands in none so long; promise 1 names the bound.
        self.assertEqual(sc_message(1, 0, code_of(*[variable(0)] * 64), []), message(0, 1))
        self.assertEqual(sc_message(1, 0, code_of(*[variable(0)] * 65), []), [-2])

    def test_what_is_no_circuit(self):
        for n, code in refused_circuits():
            self.assertEqual(sc_message(n, 0, code, []), [-3], (n, code))
            self.assertEqual(sc_message(n, n - 1, code, [1] * (n - 1)), [-3], (n, code))

    def test_both_at_once(self):
        for n, code in refused_circuits():
            for wrong in (0, 13, -1):
                self.assertEqual(sc_message(wrong, 0, code, []), [-2], (wrong, code))
            for wrong in (-1, n, LOWEST, HIGHEST):
                self.assertEqual(sc_message(n, wrong, code, []), [-2], (n, wrong, code))
        self.assertEqual(sc_message(2, 1, [], [65521]), [-2])

    def test_neither_r_nor_the_circuit(self):
        self.assertEqual(sc_message(2, 1, [9, 0, 0, 0], [65521]), [-3])


class HandedIn(unittest.TestCase):
    def test_unchanged_and_the_same_again(self):
        good = code_of(variable(0), variable(1), less(0, 1), times(2, 2))
        check_call(self, sc_message, (2, 0, good, []), message(1, 1, 5))
        check_call(self, sc_message, (2, 1, good, [3]), message(9, 4, 1))
        check_call(self, sc_message, (2, 1, good, [65521]), [-3])
        check_call(self, sc_message, (2, 1, code_of(variable(2)), [3]), [-3])
        check_call(self, sc_message, (2, 2, good, []), [-2])
        check_call(self, sc_message, (0, 0, good, []), [-2])
        check_call(self, sc_message, (2, 1, [], [3]), [-2])
        check_call(self, sc_message, (2, 1, good, [3]), message(9, 4, 1))


if __name__ == "__main__":
    unittest.main()
