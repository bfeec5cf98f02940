import unittest

from bychance.claims import ch_value, degrees_hold, gates_of
from helper import HIGHEST, LOWEST, PRIME, Made
from helper import add, code_of, less, number, power_gates, product_of_variables, times, variable
from helper import expanded, made_circuit, value_of_terms


class Ordinary(unittest.TestCase):
    def test_a_variable(self):
        self.assertEqual(ch_value(1, code_of(variable(0)), [7]), [7])
        for a in range(3):
            self.assertEqual(ch_value(3, code_of(variable(a)), [10, 20, 30]), [10 * a + 10])

    def test_a_number_the_lower_byte_first(self):
        self.assertEqual(ch_value(1, [1, 0, 0x34, 0x12], [7]), [4660])
        self.assertEqual(ch_value(1, [1, 0, 1, 0], [7]), [1])
        self.assertEqual(ch_value(1, [1, 0, 0, 1], [7]), [256])
        self.assertEqual(ch_value(1, [1, 0, 0, 0], [7]), [0])

    def test_a_sum(self):
        code = code_of(variable(0), variable(1), add(0, 1))
        self.assertEqual(ch_value(2, code, [5, 3]), [8])
        self.assertEqual(ch_value(2, code, [65520, 1]), [0])
        self.assertEqual(ch_value(2, code, [65520, 65520]), [65519])

    def test_a_difference(self):
        code = code_of(variable(0), variable(1), less(0, 1))
        self.assertEqual(ch_value(2, code, [5, 3]), [2])
        self.assertEqual(ch_value(2, code, [3, 5]), [65519])
        self.assertEqual(ch_value(2, code, [0, 65520]), [1])
        self.assertEqual(ch_value(2, code, [9, 9]), [0])
        self.assertEqual(ch_value(2, code_of(variable(0), variable(1), less(1, 0)), [5, 3]), [65519])

    def test_a_product(self):
        code = code_of(variable(0), variable(1), times(0, 1))
        self.assertEqual(ch_value(2, code, [5, 3]), [15])
        self.assertEqual(ch_value(2, code, [256, 256]), [15])
        self.assertEqual(ch_value(2, code, [65520, 65520]), [1])
        self.assertEqual(ch_value(2, code, [65520, 2]), [65519])

    def test_both_operands_may_be_one_gate(self):
        self.assertEqual(ch_value(1, code_of(variable(0), add(0, 0)), [9]), [18])
        self.assertEqual(ch_value(1, code_of(variable(0), less(0, 0)), [9]), [0])
        self.assertEqual(ch_value(1, code_of(variable(0), times(0, 0)), [9]), [81])

    def test_several_gates_worked_by_hand(self):
        code = code_of(variable(0), variable(1), add(0, 1), less(0, 1), times(2, 3))
        self.assertEqual(ch_value(2, code, [5, 3]), [16])
        self.assertEqual(ch_value(2, code, [3, 5]), [65505])
        # (3 x0 + 1000) (x1 - x0) at 4, 10 is 1012 times 6.
        code = code_of(
            variable(0), number(3), times(0, 1), number(1000), add(2, 3), variable(1), less(5, 0), times(4, 6))
        self.assertEqual(ch_value(2, code, [4, 10]), [6072])

    def test_the_last_gate_counts_though_it_uses_none(self):
        self.assertEqual(ch_value(1, code_of(variable(0), times(0, 0), number(5)), [9]), [5])
        self.assertEqual(ch_value(2, code_of(number(5), variable(0), variable(1)), [8, 9]), [9])

    def test_against_the_expanded_polynomial(self):
        made = Made(3)
        answered = 0
        for _ in range(300):
            n = 1 + made.below(3)
            code = made_circuit(made, n)
            x = made.numbers(n)
            answer = ch_value(n, code, x)
            if answer != [-3]:
                answered += 1
                self.assertEqual(answer, [value_of_terms(expanded(code, n), x)])
        self.assertGreater(answered, 250)

    def test_answers_a_list_with_an_int(self):
        answer = ch_value(1, code_of(variable(0)), [1])
        self.assertIs(type(answer), list)
        self.assertIs(type(answer[0]), int)


class Edges(unittest.TestCase):
    def test_twelve_variables(self):
        x = [100 + a for a in range(12)]
        for a in range(12):
            self.assertEqual(ch_value(12, code_of(variable(a)), x), [100 + a])

    def test_sixty_four_gates(self):
        # Each gate behind the first doubles the one before it.
        code = code_of(variable(0), *[add(place, place) for place in range(63)])
        self.assertEqual(len(code), 256)
        self.assertEqual(ch_value(1, code, [5]), [5 * 2 ** 63 % PRIME])
        self.assertEqual(ch_value(1, code[:252], [5]), [5 * 2 ** 62 % PRIME])

    def test_one_gate(self):
        self.assertEqual(ch_value(1, code_of(number(3)), [0]), [3])

    def test_the_greatest_number(self):
        self.assertEqual(ch_value(1, [1, 0, 0xF0, 0xFF], [0]), [65520])
        self.assertEqual(ch_value(1, code_of(variable(0)), [65520]), [65520])

    def test_an_operand_just_before(self):
        for kind, value in ((2, 12), (3, 4), (4, 32)):
            self.assertEqual(ch_value(2, code_of(variable(0), variable(1), [kind, 0, 1, 0]), [8, 4]), [value])


class ArgumentsRefused(unittest.TestCase):
    def test_n_out_of_its_range(self):
        for n in (0, 13, -1, -12, 14, 256, HIGHEST, LOWEST):
            self.assertEqual(ch_value(n, code_of(number(3)), []), [-2])
            self.assertEqual(ch_value(n, code_of(variable(0)), []), [-2])

    def test_no_gate(self):
        self.assertEqual(ch_value(1, [], [0]), [-2])
        self.assertEqual(ch_value(12, [], [0] * 12), [-2])

    def test_more_gates_than_sixty_four(self):
        # The interface hands in none so long; promise 1 names the bound.
        self.assertEqual(ch_value(1, code_of(*[variable(0)] * 65), [0]), [-2])

    def test_no_gate_and_n_out_of_its_range(self):
        self.assertEqual(ch_value(0, [], []), [-2])
        self.assertEqual(ch_value(13, [], []), [-2])

    def test_both_at_once(self):
        for n in (0, 13, -1):
            self.assertEqual(ch_value(n, [9, 9, 9, 9], []), [-2])
            self.assertEqual(ch_value(n, code_of(variable(12)), []), [-2])
            self.assertEqual(ch_value(n, [1, 0, 255, 255], []), [-2])
            self.assertEqual(ch_value(n, code_of(variable(0), *power_gates(0, 16, 1)), []), [-2])
        self.assertEqual(ch_value(1, [], [65521]), [-2])
        self.assertEqual(ch_value(2, [], [0, 65535]), [-2])


class CircuitRefused(unittest.TestCase):
    def refused(self, n, *gates):
        """-3, whether the gates stand last or a good one stands behind them."""
        self.assertEqual(ch_value(n, code_of(*gates), [1] * n), [-3])
        self.assertEqual(ch_value(n, code_of(*gates, number(1)), [1] * n), [-3])

    def test_a_variable_that_is_not_below_n(self):
        for n in range(1, 13):
            self.refused(n, variable(n))
            self.refused(n, variable(255))
            self.refused(n, variable(0), variable(n))

    def test_a_gate_that_is_not_before(self):
        for kind in (2, 3, 4):
            self.refused(1, [kind, 0, 0, 0])
            for a, b in ((0, 2), (2, 0), (2, 2), (0, 3), (3, 0), (1, 255), (255, 1)):
                self.refused(1, variable(0), number(2), [kind, a, b, 0])
            self.assertEqual(
                ch_value(1, code_of(variable(0), [kind, 2, 0, 0], number(2)), [1]), [-3])
            self.assertEqual(
                ch_value(1, code_of(variable(0), [kind, 0, 2, 0], number(2)), [1]), [-3])

    def test_the_last_of_sixty_four_gates(self):
        good = [variable(0)] * 63
        self.assertEqual(ch_value(1, code_of(*good, add(62, 62)), [4]), [8])
        self.assertEqual(ch_value(1, code_of(*good, add(62, 63)), [4]), [-3])
        self.assertEqual(ch_value(1, code_of(*good, add(63, 62)), [4]), [-3])

    def test_a_kind_that_there_is_not(self):
        for kind in range(5, 256):
            self.refused(1, [kind, 0, 0, 0])
            self.refused(1, variable(0), [kind, 0, 0, 0])

    def test_a_byte_that_should_be_0(self):
        for value in (1, 128, 255):
            self.refused(1, [0, 0, value, 0])
            self.refused(1, [0, 0, 0, value])
            self.refused(1, [1, value, 3, 0])
            for kind in (2, 3, 4):
                self.refused(1, variable(0), [kind, 0, 0, value])

    def test_a_number_that_is_none(self):
        for value in range(65521, 65536):
            self.refused(1, number(value))
        self.refused(1, number(65521), number(65535))

    def test_x_that_is_no_number(self):
        for value in (65521, 65535):
            self.assertEqual(ch_value(1, code_of(variable(0)), [value]), [-3])
            for place in range(12):
                x = [0] * 12
                x[place] = value
                self.assertEqual(ch_value(12, code_of(number(3)), x), [-3])

    def test_both_x_and_the_circuit(self):
        self.assertEqual(ch_value(1, [9, 0, 0, 0], [65521]), [-3])


class Degrees(unittest.TestCase):
    def test_fifteen_and_sixteen_in_one_variable(self):
        fifteen = [variable(0), *power_gates(0, 15, 1)]
        self.assertEqual(ch_value(1, code_of(*fifteen), [2]), [32768])
        self.assertEqual(ch_value(1, code_of(*fifteen, times(14, 0)), [2]), [-3])
        self.assertEqual(ch_value(1, code_of(*fifteen, times(0, 14)), [2]), [-3])

    def test_in_each_variable(self):
        for n in (2, 12):
            for a in range(n):
                x = [1] * n
                x[a] = 2
                fifteen = [variable(a), *power_gates(0, 15, 1)]
                self.assertEqual(ch_value(n, code_of(*fifteen), x), [32768])
                self.assertEqual(ch_value(n, code_of(*fifteen, times(14, 0)), x), [-3])

    def test_in_a_gate_that_is_not_the_last(self):
        fifteen = [variable(0), *power_gates(0, 15, 1)]
        self.assertEqual(ch_value(1, code_of(*fifteen, number(6)), [2]), [6])
        self.assertEqual(ch_value(1, code_of(*fifteen, times(14, 0), number(6)), [2]), [-3])
        self.assertEqual(ch_value(1, code_of(*fifteen, times(14, 0), variable(0)), [2]), [-3])

    def test_what_cancels_counts_all_the_same(self):
        fifteen = [variable(0), *power_gates(0, 15, 1)]
        # x^15 - x^15, then times x: nothing at all, but 16 by the gates.
        self.assertEqual(ch_value(1, code_of(*fifteen, less(14, 14), number(3)), [2]), [3])
        self.assertEqual(ch_value(1, code_of(*fifteen, less(14, 14), times(15, 0)), [2]), [-3])
        self.assertEqual(ch_value(1, code_of(*fifteen, number(0), times(14, 15), times(16, 0)), [2]), [-3])

    def test_a_number_adds_none(self):
        fifteen = [variable(0), *power_gates(0, 15, 1)]
        self.assertEqual(ch_value(1, code_of(*fifteen, number(3), times(14, 15)), [2]), [98304 % PRIME])
        self.assertEqual(ch_value(1, code_of(*fifteen, number(3), times(15, 14)), [2]), [98304 % PRIME])

    def test_of_a_sum_or_difference_the_greater(self):
        fifteen = [variable(0), *power_gates(0, 15, 1)]
        for make in (add, less):
            for a, b in ((14, 14), (14, 0), (0, 14), (14, 7), (7, 14)):
                joined = [*fifteen, make(a, b)]
                self.assertNotEqual(ch_value(1, code_of(*joined), [2]), [-3])
                self.assertEqual(ch_value(1, code_of(*joined, times(15, 0)), [2]), [-3])
            # Of 14 and 1 the greater leaves room for one more, of 14 and 14 too.
            self.assertNotEqual(ch_value(1, code_of(*fifteen, make(13, 0), times(15, 0)), [2]), [-3])
            self.assertNotEqual(ch_value(1, code_of(*fifteen, make(13, 13), times(15, 0)), [2]), [-3])

    def test_of_a_product_both_together(self):
        fifteen = [variable(0), *power_gates(0, 15, 1)]
        # Gate g makes x to the g + 1.
        for a in range(15):
            for b in range(15):
                answer = ch_value(1, code_of(*fifteen, times(a, b)), [2])
                expected = [2 ** (a + b + 2)] if a + b + 2 <= 15 else [-3]
                self.assertEqual(answer, expected)

    def test_another_variable_adds_none(self):
        gates = [variable(0), *power_gates(0, 15, 1), variable(1), *power_gates(15, 15, 16), times(14, 29)]
        self.assertEqual(ch_value(2, code_of(*gates), [2, 1]), [32768])
        self.assertEqual(ch_value(2, code_of(*gates, times(30, 0)), [2, 1]), [-3])
        self.assertEqual(ch_value(2, code_of(*gates, times(30, 15)), [2, 1]), [-3])

    def test_the_greatest_degree_there_is(self):
        # All twelve, each to the fifteenth: a degree of 180.
        gates = product_of_variables(12)
        self.assertEqual(len(gates), 23)
        gates = [*gates, *power_gates(22, 15, 23)]
        x = [3] + [1] * 11
        self.assertEqual(ch_value(12, code_of(*gates), x), [3 ** 15 % PRIME])
        for a in range(12):
            self.assertEqual(ch_value(12, code_of(*gates, times(len(gates) - 1, a)), x), [-3])

    def test_a_degree_of_255_and_256(self):
        # Either is refused of 12 variables or fewer, as one of them is above 15 then.
        squares = [variable(0)] + [times(place, place) for place in range(8)]
        self.assertEqual(ch_value(1, code_of(*squares), [1]), [-3])
        self.assertEqual(ch_value(1, code_of(*squares, number(1)), [1]), [-3])
        less_one = squares[:8]
        last = 7
        for place in range(6, -1, -1):
            less_one.append(times(last, place))
            last = len(less_one) - 1
        self.assertEqual(ch_value(1, code_of(*less_one), [1]), [-3])
        self.assertEqual(ch_value(1, code_of(*less_one, number(1)), [1]), [-3])
        eight = product_of_variables(8)
        for _ in range(5):
            eight.append(times(len(eight) - 1, len(eight) - 1))
        self.assertEqual(ch_value(8, code_of(*eight), [1] * 8), [-3])
        self.assertEqual(ch_value(8, code_of(*eight, number(1)), [1] * 8), [-3])

    def test_the_bound_of_255_by_itself(self):
        # Only more variables than a call takes bring the degree so high with 15 in each.
        gates = product_of_variables(17)
        gates = [*gates, *power_gates(32, 15, 33), variable(17)]
        self.assertTrue(degrees_hold(18, gates_of(code_of(*gates))))
        one_more = [*gates, times(len(gates) - 2, len(gates) - 1)]
        self.assertFalse(degrees_hold(18, gates_of(code_of(*one_more))))
        self.assertFalse(degrees_hold(18, gates_of(code_of(*one_more, number(1)))))

    def test_degrees_far_beyond(self):
        code = code_of(variable(0), *[times(place, place) for place in range(63)])
        self.assertEqual(ch_value(1, code, [1]), [-3])
        # The same with a number in the place of the variable has no degree.
        code = code_of(number(1), *[times(place, place) for place in range(63)])
        self.assertEqual(ch_value(1, code, [1]), [1])


class HandedIn(unittest.TestCase):
    def test_unchanged_and_the_same_again(self):
        good = code_of(variable(0), variable(1), less(0, 1), times(2, 2))
        calls = (
            (2, good, [3, 5]),
            (2, good, [3, 65521]),
            (2, code_of(variable(2)), [3, 5]),
            (0, good, []),
            (2, [], [3, 5]),
        )
        expected = ([4], [-3], [-3], [-2], [-2])
        for _ in range(2):
            for (n, code, x), answer in zip(calls, expected):
                kept_code = list(code)
                kept_x = list(x)
                self.assertEqual(ch_value(n, code, x), answer)
                self.assertEqual(code, kept_code)
                self.assertEqual(x, kept_x)

    def test_an_answer_that_is_changed_changes_no_other(self):
        for call in ((1, code_of(variable(0)), [4]), (1, [9, 0, 0, 0], [4]), (0, [], [])):
            first = ch_value(*call)
            kept = list(first)
            first.append(7)
            self.assertEqual(ch_value(*call), kept)


if __name__ == "__main__":
    unittest.main()
