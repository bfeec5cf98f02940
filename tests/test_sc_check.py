import unittest

from bychance.claims import sc_check
from helper import HIGHEST, LOWEST, PRIME, Made
from helper import add, code_of, less, number, power_gates, product_of_variables, times, variable
from helper import check_call, expanded, made_circuit, message_of_terms, most_terms, refused_circuits
from helper import value_of_terms


def rows_of(*claims, behind=0):
    """Sixteen numbers for each claim; what isn't looked at is `behind`."""
    return [each for claim in claims for each in [*claim, *[behind] * (16 - len(claim))]]


def weight(count, place, x):
    """What the value at a place counts for at x, by Lagrange, in a polynomial that count values tell."""
    above = below = 1
    for other in range(count):
        if other != place:
            above = above * (x - other) % PRIME
            below = below * (place - other) % PRIME
    return above * pow(below, -1, PRIME) % PRIME


def lagrange(values, x):
    return sum(weight(len(values), place, x) * value for place, value in enumerate(values)) % PRIME


def degree_of(code, n):
    return max(max(exponents) for exponents in most_terms(code, n))


def true_claims(code, n, r):
    d = degree_of(code, n)
    terms = expanded(code, n)
    return [message_of_terms(terms, d, r[:i]) for i in range(n)]


def made_case(made, variables, lowest_d):
    while True:
        n = 1 + made.below(variables)
        code = made_circuit(made, n)
        d = degree_of(code, n)
        if lowest_d <= d <= 15:
            return n, code, d


class Ordinary(unittest.TestCase):
    def test_one_variable_by_hand(self):
        code = code_of(variable(0))
        for at in (0, 1, 2, 5, 65520):
            self.assertEqual(sc_check(1, 1, code, rows_of([0, 1]), [at]), [1])
        # The total isn't 1.
        for total in (0, 2, 65520):
            self.assertEqual(sc_check(1, total, code, rows_of([0, 1]), [5]), [0])
        # 1 - x0 has the total too, but not the value at 5.
        self.assertEqual(sc_check(1, 1, code, rows_of([1, 0]), [5]), [0])

    def test_a_false_claim_that_passes_by_chance(self):
        # 1 - x is x at a half, which is 32761.
        code = code_of(variable(0))
        self.assertEqual(sc_check(1, 1, code, rows_of([1, 0]), [32761]), [1])
        self.assertEqual(sc_check(1, 1, code, rows_of([1, 0]), [32760]), [0])
        # x + 1 claims 3 in the place of 1, and is never x.
        self.assertEqual(sc_check(1, 3, code, rows_of([1, 2]), [32761]), [0])

    def test_two_variables_by_hand(self):
        code = code_of(variable(0), variable(1), times(0, 1))
        self.assertEqual(sc_check(2, 1, code, rows_of([0, 1], [0, 5]), [5, 7]), [1])
        self.assertEqual(sc_check(2, 1, code, rows_of([0, 1], [0, 6]), [5, 7]), [0])
        self.assertEqual(sc_check(2, 1, code, rows_of([0, 1], [1, 5]), [5, 7]), [0])
        self.assertEqual(sc_check(2, 2, code, rows_of([0, 1], [0, 5]), [5, 7]), [0])
        # The second row is right in its total, which is the first one's 5, but 5 - 5 x is -30 at 7.
        self.assertEqual(sc_check(2, 1, code, rows_of([0, 1], [5, 0]), [5, 7]), [0])
        # The first row's value is asked at r of the first variable, not of the second.
        self.assertEqual(sc_check(2, 1, code, rows_of([0, 1], [0, 7]), [5, 7]), [0])

    def test_it_fails_at_the_total_alone(self):
        # x0 + x1 is 4 in all; every other row holds, and the last value too.
        code = code_of(variable(0), variable(1), add(0, 1))
        rows = rows_of([1, 3], [10, 11])
        self.assertEqual(sc_check(2, 4, code, rows, [10, 20]), [1])
        for total in (0, 3, 5, 65520):
            self.assertEqual(sc_check(2, total, code, rows, [10, 20]), [0])

    def test_it_fails_at_a_row_between_alone(self):
        code = code_of(variable(0), variable(1), add(0, 1))
        # 30 everywhere has the circuit's value at 20, but the first row's 2 x + 1 asks for 21 in all.
        self.assertEqual(sc_check(2, 4, code, rows_of([1, 3], [30, 30]), [10, 20]), [0])
        # 3 - 2 x is 4 in all too, but asks for -17 of a second row that makes 21.
        self.assertEqual(sc_check(2, 4, code, rows_of([3, 1], [10, 11]), [10, 20]), [0])
        self.assertEqual(sc_check(2, 4, code, rows_of([2, 2], [10, 11]), [10, 20]), [0])

    def test_it_fails_at_the_last_value_alone(self):
        code = code_of(variable(0), variable(1), add(0, 1))
        # 21 is the sum of 11 and 10 too.
        self.assertEqual(sc_check(2, 4, code, rows_of([1, 3], [11, 10]), [10, 20]), [0])

    def test_true_claims_are_accepted(self):
        made = Made(31)
        for _ in range(200):
            n, code, d = made_case(made, 4, 0)
            r = made.numbers(n)
            claims = true_claims(code, n, r)
            total = 2 * claims[0][0] if d == 0 else claims[0][0] + claims[0][1]
            self.assertEqual(sc_check(n, total % PRIME, code, rows_of(*claims), r), [1])
            self.assertEqual(sc_check(n, (total + 1) % PRIME, code, rows_of(*claims), r), [0])

    def test_a_number_of_a_true_claim_that_is_changed(self):
        made = Made(37)
        for _ in range(40):
            n, code, d = made_case(made, 4, 1)
            # No r is a place of the rows, where another number alone might not be seen.
            r = [d + 1 + made.below(PRIME - d - 1) for _ in range(n)]
            claims = true_claims(code, n, r)
            total = (claims[0][0] + claims[0][1]) % PRIME
            for row in range(n):
                for place in range(d + 1):
                    changed = [list(claim) for claim in claims]
                    changed[row][place] = (changed[row][place] + 1 + made.below(PRIME - 1)) % PRIME
                    self.assertEqual(sc_check(n, total, code, rows_of(*changed), r), [0])

    def test_claims_made_up_to_pass(self):
        made = Made(41)
        for _ in range(100):
            n, code, d = made_case(made, 4, 2)
            r = [d + 1 + made.below(PRIME - d - 1) for _ in range(n)]
            total = made.below(PRIME)
            value = value_of_terms(expanded(code, n), r)
            due = total
            claims = []
            for row in range(n):
                claim = made.numbers(d + 1)
                claim[0] = (due - claim[1]) % PRIME
                if row == n - 1:
                    # The value at 2 is chosen so that the last claim has the circuit's value at r.
                    lacking = value - lagrange(claim, r[row])
                    claim[2] = (claim[2] + lacking * pow(weight(d + 1, 2, r[row]), -1, PRIME)) % PRIME
                claims.append(claim)
                due = lagrange(claim, r[row])
            self.assertEqual(due, value)
            self.assertEqual(sc_check(n, total, code, rows_of(*claims), r), [1])
            # Each of these fails at one place alone: the total, a row between, the last value.
            self.assertEqual(sc_check(n, (total + 1) % PRIME, code, rows_of(*claims), r), [0])
            for row in range(n - 1):
                # Still with the same total, but another value at r.
                changed = [list(claim) for claim in claims]
                changed[row][2] = (changed[row][2] + 1) % PRIME
                self.assertEqual(sc_check(n, total, code, rows_of(*changed), r), [0])
            changed = [list(claim) for claim in claims]
            changed[-1][2] = (changed[-1][2] + 1) % PRIME
            self.assertEqual(sc_check(n, total, code, rows_of(*changed), r), [0])

    def test_the_last_gate_counts(self):
        # d is that of the last gate, 1, though another gate is of 2.
        code = code_of(variable(0), times(0, 0), variable(0))
        self.assertEqual(sc_check(1, 1, code, rows_of([0, 1], behind=9), [6]), [1])


class Degrees(unittest.TestCase):
    def test_d_of_0(self):
        nine = code_of(number(9))
        for behind in (0, 9, 1, 65535):
            self.assertEqual(sc_check(1, 18, nine, rows_of([9], behind=behind), [5]), [1])
            self.assertEqual(sc_check(1, 9, nine, rows_of([9], behind=behind), [5]), [0])
            self.assertEqual(sc_check(1, 10, nine, rows_of([9], behind=behind), [5]), [0])
            self.assertEqual(sc_check(3, 72, nine, rows_of([36], [18], [9], behind=behind), [5, 0, 1]), [1])
        # Twice 8 is 16 and holds, but 8 isn't 9.
        self.assertEqual(sc_check(1, 16, nine, rows_of([8]), [5]), [0])
        self.assertEqual(sc_check(2, 36, nine, rows_of([18], [8]), [5, 6]), [0])
        self.assertEqual(sc_check(2, 35, nine, rows_of([18], [9]), [5, 6]), [0])
        # Half of 1 is 32761.
        self.assertEqual(sc_check(1, 1, code_of(number(32761)), rows_of([32761]), [5]), [1])

    def test_d_of_15(self):
        code = code_of(variable(0), *power_gates(0, 15, 1))
        rows = [at ** 15 % PRIME for at in range(16)]
        for at in (0, 1, 2, 14, 15, 16, 17, 100, 32768, 65519, 65520):
            self.assertEqual(sc_check(1, 1, code, rows, [at]), [1])
            self.assertEqual(sc_check(1, 2, code, rows, [at]), [0])
        for place in range(2, 16):
            changed = list(rows)
            changed[place] = (changed[place] + 1) % PRIME
            self.assertEqual(sc_check(1, 1, code, changed, [100]), [0])
            # At a place of the row, the number there is the value, and the others aren't seen.
            self.assertEqual(sc_check(1, 1, code, changed, [place]), [0])
            self.assertEqual(sc_check(1, 1, code, changed, [(place + 1) % 16]), [1])

    def test_each_d_with_r_below_and_above_it(self):
        for d in range(1, 16):
            code = code_of(variable(0), *power_gates(0, d, 1))
            rows = rows_of([at ** d % PRIME for at in range(d + 1)], behind=65535)
            for at in (0, 1, d - 1, d, d + 1, d + 2, 15, 16, 1000, 65520):
                self.assertEqual(sc_check(1, 1, code, rows, [at]), [1])

    def test_a_claim_of_a_lower_degree_than_d(self):
        # By the gates x0^2 - x0^2 + x0 is of degree 2; the claim is of degree 1.
        code = code_of(variable(0), times(0, 0), less(1, 1), add(2, 0))
        self.assertEqual(sc_check(1, 1, code, rows_of([0, 1, 2]), [50]), [1])
        self.assertEqual(sc_check(1, 1, code, rows_of([0, 1, 0]), [50]), [0])

    def test_d_is_the_greatest_of_all_variables(self):
        # x0 + x1^3 takes four numbers of each row.
        code = code_of(variable(0), variable(1), times(1, 1), times(2, 1), add(0, 3))
        self.assertEqual(sc_check(2, 4, code, rows_of([1, 3, 5, 7], [10, 11, 18, 37]), [10, 5]), [1])
        self.assertEqual(sc_check(2, 4, code, rows_of([1, 3], [10, 11, 18, 37]), [10, 5]), [0])

    def test_what_is_not_looked_at(self):
        code = code_of(variable(0), variable(1), times(0, 1))
        for behind in (0, 1, 65520, 65521, 65535):
            self.assertEqual(sc_check(2, 1, code, rows_of([0, 1], [0, 5], behind=behind), [5, 7]), [1])
            self.assertEqual(sc_check(2, 1, code, rows_of([0, 1], [0, 6], behind=behind), [5, 7]), [0])

    def test_sixteen_in_one_variable(self):
        sixteen = [variable(0), *power_gates(0, 16, 1)]
        rows = [at ** 16 % PRIME for at in range(16)]
        self.assertEqual(sc_check(1, 1, code_of(*sixteen), rows, [3]), [-3])
        self.assertEqual(sc_check(1, 1, code_of(*sixteen, variable(0)), rows_of([0, 1]), [3]), [-3])


class Edges(unittest.TestCase):
    def test_twelve_variables(self):
        code = code_of(*product_of_variables(12))
        r = [3, 1, 65520, 2, 5, 7, 1, 10, 100, 4, 6, 9]
        claims = []
        so_far = 1
        for at in r:
            claims.append([0, so_far])
            so_far = so_far * at % PRIME
        rows = rows_of(*claims)
        self.assertEqual(len(rows), 192)
        self.assertEqual(sc_check(12, 1, code, rows, r), [1])
        self.assertEqual(sc_check(12, 0, code, rows, r), [0])
        for row in range(12):
            changed = list(rows)
            changed[16 * row + 1] = (changed[16 * row + 1] + 1) % PRIME
            self.assertEqual(sc_check(12, 1, code, changed, r), [0])
            others = list(r)
            others[row] += 1 if others[row] < 65520 else -1
            # Another r leads to another value, and with the last one the rows still hold.
            self.assertEqual(sc_check(12, 1, code, rows, others), [1 if row == 11 else 0])

    def test_fifteen_in_all_twelve(self):
        code = code_of(*product_of_variables(12), *power_gates(22, 15, 23))
        r = [2 + a for a in range(12)]
        claims = []
        so_far = 1
        for at in r:
            claims.append([so_far * place ** 15 % PRIME for place in range(16)])
            so_far = so_far * at ** 15 % PRIME
        self.assertEqual(sc_check(12, 1, code, rows_of(*claims), r), [1])
        claims[11][15] = (claims[11][15] + 1) % PRIME
        self.assertEqual(sc_check(12, 1, code, rows_of(*claims), r[:11] + [100]), [0])

    def test_the_least_and_the_greatest_total(self):
        zero = code_of(number(0))
        self.assertEqual(sc_check(1, 0, zero, rows_of([0]), [0]), [1])
        self.assertEqual(sc_check(1, 65520, zero, rows_of([0]), [0]), [0])
        # x0 - 1 is -1 and 0.
        code = code_of(variable(0), number(1), less(0, 1))
        self.assertEqual(sc_check(1, 65520, code, rows_of([65520, 0]), [8]), [1])
        self.assertEqual(sc_check(1, 0, code, rows_of([65520, 0]), [8]), [0])

    def test_values_that_add_up_over_65520(self):
        # 40000 + x0 makes 80001 in all, which is 14480.
        code = code_of(variable(0), number(40000), add(0, 1))
        self.assertEqual(sc_check(1, 14480, code, rows_of([40000, 40001]), [65520]), [1])
        self.assertEqual(sc_check(1, 14479, code, rows_of([40000, 40001]), [65520]), [0])

    def test_the_greatest_numbers_of_r(self):
        code = code_of(variable(0))
        self.assertEqual(sc_check(1, 1, code, rows_of([0, 1]), [65520]), [1])
        for value in (65521, 65535):
            self.assertEqual(sc_check(1, 1, code, rows_of([0, 1]), [value]), [-3])
            self.assertEqual(sc_check(1, 10, code_of(number(5)), rows_of([5]), [value]), [-3])
            for place in range(12):
                r = [0] * 12
                r[place] = value
                self.assertEqual(sc_check(12, 1, code, [0] * 192, r), [-3])

    def test_the_greatest_numbers_of_rows(self):
        # x0^2 + x1, so that three numbers of each row are looked at.
        code = code_of(variable(0), variable(1), times(0, 0), add(2, 1))
        good = rows_of([1, 3, 9], [25, 26, 27])
        self.assertEqual(sc_check(2, 4, code, good, [5, 7]), [1])
        for place in range(32):
            seen = place % 16 < 3
            for value in (65520, 65521, 65535):
                rows = list(good)
                rows[place] = value
                answer = [1] if not seen else [0] if value == 65520 else [-3]
                self.assertEqual(sc_check(2, 4, code, rows, [5, 7]), answer)
                # Where it isn't accepted anyhow, what is no number is refused all the same.
                answer = [-3] if seen and value > 65520 else [0]
                self.assertEqual(sc_check(2, 5, code, rows, [5, 7]), answer)

    def test_every_number_of_a_row_is_looked_at_where_d_is_15(self):
        code = code_of(variable(1), *power_gates(0, 15, 1))
        for place in range(32):
            for value in (65521, 65535):
                rows = [0] * 32
                rows[place] = value
                self.assertEqual(sc_check(2, 1, code, rows, [5, 7]), [-3])

    def test_sixty_four_gates(self):
        code = code_of(variable(0), *[add(place, place) for place in range(63)])
        factor = 2 ** 63 % PRIME
        self.assertEqual(sc_check(1, factor, code, rows_of([0, factor]), [9]), [1])


class Refused(unittest.TestCase):
    def test_n_out_of_its_range(self):
        for n in (0, 13, -1, -12, 14, 256, HIGHEST, LOWEST):
            self.assertEqual(sc_check(n, 0, code_of(number(3)), [], []), [-2])

    def test_no_gate(self):
        self.assertEqual(sc_check(1, 0, [], [0] * 16, [0]), [-2])
        self.assertEqual(sc_check(12, 0, [], [0] * 192, [0] * 12), [-2])
        self.assertEqual(sc_check(0, 0, [], [], []), [-2])

    def test_more_gates_than_sixty_four(self):
        # The interface hands in none so long; promise 1 names the bound.
        self.assertEqual(sc_check(1, 1, code_of(*[variable(0)] * 64), rows_of([0, 1]), [4]), [1])
        self.assertEqual(sc_check(1, 1, code_of(*[variable(0)] * 65), rows_of([0, 1]), [4]), [-2])

    def test_a_total_that_is_no_number(self):
        for total in (65521, 65522, 65535, 65536, -1, -65521, HIGHEST, LOWEST):
            self.assertEqual(sc_check(1, total, code_of(variable(0)), rows_of([0, 1]), [5]), [-2])
        # 65521 isn't taken for 0, nor 65522 for 1.
        self.assertEqual(sc_check(1, 65521, code_of(number(0)), rows_of([0]), [5]), [-2])

    def test_what_is_no_circuit(self):
        for n, code in refused_circuits():
            self.assertEqual(sc_check(n, 0, code, [0] * (16 * n), [0] * n), [-3], (n, code))

    def test_both_at_once(self):
        for n, code in refused_circuits():
            for wrong in (0, 13, -1):
                self.assertEqual(sc_check(wrong, 0, code, [], []), [-2], (wrong, code))
            for total in (-1, 65521):
                self.assertEqual(sc_check(n, total, code, [0] * (16 * n), [0] * n), [-2], (n, code))
        good = code_of(variable(0))
        for total in (-1, 65521):
            self.assertEqual(sc_check(1, total, good, [65521] * 16, [5]), [-2])
            self.assertEqual(sc_check(1, total, good, [0] * 16, [65521]), [-2])
        self.assertEqual(sc_check(1, 0, [], [65521] * 16, [65535]), [-2])

    def test_several_of_what_is_handed_over(self):
        self.assertEqual(sc_check(1, 0, [9, 0, 0, 0], [65521] * 16, [65521]), [-3])
        self.assertEqual(sc_check(1, 0, code_of(variable(0)), [65521] * 16, [65521]), [-3])


class HandedIn(unittest.TestCase):
    def test_unchanged_and_the_same_again(self):
        code = code_of(variable(0), variable(1), times(0, 1))
        rows = rows_of([0, 1], [0, 5])
        check_call(self, sc_check, (2, 1, code, rows, [5, 7]), [1])
        check_call(self, sc_check, (2, 2, code, rows, [5, 7]), [0])
        check_call(self, sc_check, (2, 1, code, rows_of([0, 1], [0, 65521]), [5, 7]), [-3])
        check_call(self, sc_check, (2, 1, code, rows, [5, 65521]), [-3])
        check_call(self, sc_check, (2, 1, code_of(variable(2)), rows, [5, 7]), [-3])
        check_call(self, sc_check, (2, 65521, code, rows, [5, 7]), [-2])
        check_call(self, sc_check, (0, 1, code, [], []), [-2])
        check_call(self, sc_check, (2, 1, [], rows, [5, 7]), [-2])
        check_call(self, sc_check, (2, 1, code, rows, [5, 7]), [1])


if __name__ == "__main__":
    unittest.main()
