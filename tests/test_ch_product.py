import unittest

from bychance.claims import ch_product
from helper import HIGHEST, LOWEST, PRIME, Made


def full_product(k, a, b):
    """a times b, number by number, with no column: another way than the call's own."""
    return [
        sum(a[k * i + m] * b[k * m + j] for m in range(k)) % PRIME
        for i in range(k)
        for j in range(k)
    ]


def shift(k, by):
    """The matrix that has a 1 in row i at column i + by, counted round."""
    return [1 if j == (i + by) % k else 0 for i in range(k) for j in range(k)]


class Ordinary(unittest.TestCase):
    def test_one_by_one(self):
        self.assertEqual(ch_product(1, [2], [3], [6], [1]), [1])
        self.assertEqual(ch_product(1, [2], [3], [7], [1]), [0])
        self.assertEqual(ch_product(1, [2], [3], [6], [65520]), [1])
        self.assertEqual(ch_product(1, [0], [0], [0], [0]), [1])

    def test_two_by_two_worked_by_hand(self):
        a = [1, 2, 3, 4]
        b = [5, 6, 7, 8]
        for r in ([1, 0], [0, 1], [1, 1], [3, 5], [65520, 2]):
            self.assertEqual(ch_product(2, a, b, [19, 22, 43, 50], r), [1])

    def test_the_product_the_other_way_round_is_another(self):
        self.assertEqual(ch_product(2, [1, 2, 3, 4], [5, 6, 7, 8], [23, 34, 31, 46], [1, 1]), [0])

    def test_rows_are_rows_and_not_columns(self):
        self.assertEqual(ch_product(2, [1, 2, 3, 4], [5, 6, 7, 8], [19, 43, 22, 50], [1, 1]), [0])
        # r is a column: a row times c would be 1, 0 here, not 1, 1.
        self.assertEqual(ch_product(2, [1, 0, 0, 1], [1, 0, 1, 0], [1, 0, 1, 0], [1, 0]), [1])
        self.assertEqual(ch_product(2, [1, 0, 0, 1], [1, 0, 1, 0], [1, 0, 0, 0], [1, 0]), [0])

    def test_one_wrong_number_is_seen_by_its_own_column_alone(self):
        a = [1, 2, 3, 4]
        b = [5, 6, 7, 8]
        right = [19, 22, 43, 50]
        for place in range(4):
            wrong = list(right)
            wrong[place] += 1
            seen_by_first = 0 if place % 2 == 0 else 1
            self.assertEqual(ch_product(2, a, b, wrong, [1, 0]), [seen_by_first])
            self.assertEqual(ch_product(2, a, b, wrong, [0, 1]), [1 - seen_by_first])
            self.assertEqual(ch_product(2, a, b, wrong, [1, 1]), [0])
            self.assertEqual(ch_product(2, a, b, wrong, [0, 0]), [1])

    def test_two_wrong_numbers_may_cancel(self):
        self.assertEqual(ch_product(2, [1, 2, 3, 4], [5, 6, 7, 8], [20, 21, 43, 50], [1, 1]), [1])
        self.assertEqual(ch_product(2, [1, 2, 3, 4], [5, 6, 7, 8], [20, 21, 43, 50], [1, 2]), [0])

    def test_wrong_in_one_row_and_wrong_the_other_way_in_another(self):
        self.assertEqual(ch_product(2, [1, 2, 3, 4], [5, 6, 7, 8], [20, 22, 42, 50], [1, 1]), [0])

    def test_counted_modulo_65521(self):
        self.assertEqual(ch_product(1, [256], [256], [15], [1]), [1])
        self.assertEqual(ch_product(1, [256], [256], [0], [1]), [0])
        self.assertEqual(ch_product(1, [65520], [65520], [1], [1]), [1])
        self.assertEqual(ch_product(1, [65520], [1], [65520], [65520]), [1])
        # 65520 times 2 is 65519; sums wrap round as well: 65520 + 65520 is 65519.
        self.assertEqual(ch_product(2, [65520, 65520, 0, 0], [1, 0, 1, 0], [65519, 0, 0, 0], [1, 0]), [1])

    def test_against_the_whole_product(self):
        made = Made(1)
        for k in (2, 3, 5, 8):
            for _ in range(20):
                a = made.numbers(k * k)
                b = made.numbers(k * k)
                c = full_product(k, a, b)
                r = [1 + made.below(PRIME - 1) for _ in range(k)]
                self.assertEqual(ch_product(k, a, b, c, r), [1])
                place = made.below(k * k)
                c[place] = (c[place] + 1 + made.below(PRIME - 1)) % PRIME
                self.assertEqual(ch_product(k, a, b, c, r), [0])

    def test_answers_a_list_with_an_int(self):
        for c in ([6], [7]):
            answer = ch_product(1, [2], [3], c, [1])
            self.assertIs(type(answer), list)
            self.assertIs(type(answer[0]), int)


class Edges(unittest.TestCase):
    def test_sixty_four(self):
        r = Made(2).numbers(64)
        self.assertEqual(ch_product(64, shift(64, 1), shift(64, 2), shift(64, 3), r), [1])
        self.assertEqual(ch_product(64, shift(64, 1), shift(64, 2), shift(64, 61), r), [0])
        ones = [1] * 4096
        self.assertEqual(ch_product(64, ones, ones, [64] * 4096, r), [1])
        # -1 times -1, 64 times over, with a column of -1.
        most = [65520] * 4096
        self.assertEqual(ch_product(64, most, most, [64] * 4096, [65520] * 64), [1])
        self.assertEqual(ch_product(64, most, most, [63] * 4096, [65520] * 64), [0])

    def test_sixty_four_with_the_first_or_last_number_wrong(self):
        ones = [1] * 4096
        for place in (0, 63, 4032, 4095):
            c = [64] * 4096
            c[place] = 65
            self.assertEqual(ch_product(64, ones, ones, c, [1] * 64), [0])

    def test_sixty_three(self):
        self.assertEqual(ch_product(63, shift(63, 5), shift(63, 60), shift(63, 2), [1] + [0] * 62), [1])


class Refusals(unittest.TestCase):
    def test_k_out_of_its_range(self):
        for k in (0, 65, -1, -64, 66, 256, HIGHEST, LOWEST):
            self.assertEqual(ch_product(k, [], [], [], []), [-2])

    def test_the_greatest_number_is_one(self):
        self.assertEqual(ch_product(1, [65520], [65520], [65520], [65520]), [0])
        self.assertEqual(ch_product(1, [65520], [0], [0], [65520]), [1])

    def test_what_is_no_number(self):
        lengths = (9, 9, 9, 3)
        for which in range(4):
            for place in range(lengths[which]):
                for value in (65521, 65535):
                    lists = [[0] * length for length in lengths]
                    lists[which][place] = value
                    self.assertEqual(ch_product(3, *lists), [-3])
                lists = [[0] * length for length in lengths]
                lists[which][place] = 65520
                self.assertEqual(ch_product(3, *lists), [1])

    def test_what_is_no_number_at_the_end_of_sixty_four(self):
        zeros = [0] * 4096
        bad = [0] * 4095 + [65521]
        column = [0] * 64
        self.assertEqual(ch_product(64, bad, zeros, zeros, column), [-3])
        self.assertEqual(ch_product(64, zeros, bad, zeros, column), [-3])
        self.assertEqual(ch_product(64, zeros, zeros, bad, column), [-3])
        self.assertEqual(ch_product(64, zeros, zeros, zeros, [0] * 63 + [65521]), [-3])

    def test_below_0_is_no_number(self):
        # The interface hands in none such; promise 2 names what isn't a number.
        self.assertEqual(ch_product(1, [65520], [1], [-1], [1]), [-3])

    def test_both_at_once(self):
        for k in (0, 65, -1):
            self.assertEqual(ch_product(k, [65521], [65535], [65535], [65535]), [-2])


class HandedIn(unittest.TestCase):
    def test_unchanged_and_the_same_again(self):
        calls = (
            (2, [1, 2, 3, 4], [5, 6, 7, 8], [19, 22, 43, 50], [3, 5]),
            (2, [1, 2, 3, 4], [5, 6, 7, 8], [19, 22, 43, 51], [3, 5]),
            (2, [1, 2, 3, 4], [5, 6, 7, 65521], [19, 22, 43, 51], [3, 5]),
            (0, [], [], [], []),
        )
        expected = ([1], [0], [-3], [-2])
        for _ in range(2):
            for (k, *lists), answer in zip(calls, expected):
                copies = [list(values) for values in lists]
                self.assertEqual(ch_product(k, *lists), answer)
                self.assertEqual(lists, copies)

    def test_an_answer_that_is_changed_changes_no_other(self):
        for call in ((1, [2], [3], [6], [1]), (1, [65521], [3], [6], [1]), (0, [], [], [], [])):
            first = ch_product(*call)
            kept = list(first)
            first.append(7)
            self.assertEqual(ch_product(*call), kept)

    def test_one_list_may_stand_for_several(self):
        one = [1]
        self.assertEqual(ch_product(1, one, one, one, one), [1])
        self.assertEqual(one, [1])


if __name__ == "__main__":
    unittest.main()
