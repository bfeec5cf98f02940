import unittest

from bychance.claims import bl_rejects
from helper import Made, agreeing_less_differing, check_call, check_table_refusals, sum_of_bits


def rejects_by_transform(table):
    """Of all pairs, a half less half the cubes' sum: what Blum, Luby and Rubinfeld's test is known to reject."""
    cubes = sum(each ** 3 for each in agreeing_less_differing(table))
    return (len(table) ** 3 - cubes) // (2 * len(table))


class Ordinary(unittest.TestCase):
    def test_one_bit_by_hand(self):
        self.assertEqual(bl_rejects(1, [0, 0]), [0])
        self.assertEqual(bl_rejects(1, [0, 1]), [0])
        # A 1 at 0: 0, 0 makes 1 + 1 for 1; 0, 1 and 1, 0 make 1 + 0 for 0; 1, 1 makes 0 + 0 for 1.
        self.assertEqual(bl_rejects(1, [1, 0]), [4])
        self.assertEqual(bl_rejects(1, [1, 1]), [4])

    def test_two_bits_by_hand(self):
        # Two different ones of 1, 2 and 3 lead to the third: six pairs, with all three bits in each.
        self.assertEqual(bl_rejects(2, [0, 0, 0, 1]), [6])
        self.assertEqual(bl_rejects(2, [0, 0, 1, 0]), [6])
        self.assertEqual(bl_rejects(2, [0, 1, 0, 0]), [6])
        self.assertEqual(bl_rejects(2, [0, 1, 1, 1]), [6])
        self.assertEqual(bl_rejects(2, [0, 1, 1, 0]), [0])
        # A 1 at 0 alone: the ten other pairs, with a 0 among them or x and y alike, see it once or thrice.
        self.assertEqual(bl_rejects(2, [1, 0, 0, 0]), [10])
        self.assertEqual(bl_rejects(2, [1, 1, 1, 0]), [10])
        self.assertEqual(bl_rejects(2, [1, 0, 0, 1]), [16])
        self.assertEqual(bl_rejects(2, [1, 1, 1, 1]), [16])

    def test_every_sum_of_bits_has_none(self):
        for n in range(1, 7):
            for chosen in range(2 ** n):
                self.assertEqual(bl_rejects(n, sum_of_bits(n, chosen)), [0])

    def test_a_sum_of_bits_with_a_1_added_has_them_all(self):
        for n in range(1, 7):
            for chosen in range(2 ** n):
                table = [1 - bit for bit in sum_of_bits(n, chosen)]
                self.assertEqual(bl_rejects(n, table), [4 ** n])

    def test_one_place_changed(self):
        # Away from 0, a changed place is seen by the pairs that have it once: as x, as y or as their sum.
        # Each of the three is so in 2^n pairs; in two of them at once where the third is 0.
        for n in range(1, 7):
            for chosen in (0, 1, 2 ** n - 1):
                for place in range(1, 2 ** n):
                    table = sum_of_bits(n, chosen)
                    table[place] = 1 - table[place]
                    self.assertEqual(bl_rejects(n, table), [3 * 2 ** n - 6])
                # At 0 it is seen wherever x, y or their sum is 0; 0, 0 has all three.
                table = sum_of_bits(n, chosen)
                table[0] = 1
                self.assertEqual(bl_rejects(n, table), [3 * 2 ** n - 2])

    def test_three_bits_all_tables(self):
        for mask in range(256):
            table = [mask >> place & 1 for place in range(8)]
            count = 0
            for x in range(8):
                for y in range(8):
                    count += (table[x] + table[y]) % 2 != table[x ^ y]
            self.assertEqual(bl_rejects(3, table), [count])

    def test_against_the_transform(self):
        made = Made(59)
        for n in range(1, 9):
            for _ in range(12):
                table = made.numbers(2 ** n, 2)
                self.assertEqual(bl_rejects(n, table), [rejects_by_transform(table)])
                # Mostly 0s too.
                table = [1 if made.below(8) == 0 else 0 for _ in range(2 ** n)]
                self.assertEqual(bl_rejects(n, table), [rejects_by_transform(table)])


class Edges(unittest.TestCase):
    def test_ten_bits(self):
        for chosen in (0, 1, 512, 682, 1023):
            table = sum_of_bits(10, chosen)
            self.assertEqual(bl_rejects(10, table), [0])
            table[1023] = 1 - table[1023]
            self.assertEqual(bl_rejects(10, table), [3 * 1024 - 6])
        table = sum_of_bits(10, 682)
        table[0] = 1
        self.assertEqual(bl_rejects(10, table), [3 * 1024 - 2])

    def test_ten_bits_all_pairs(self):
        self.assertEqual(bl_rejects(10, [1] * 1024), [1048576])

    def test_ten_bits_against_the_transform(self):
        made = Made(61)
        for _ in range(3):
            table = made.numbers(1024, 2)
            self.assertEqual(bl_rejects(10, table), [rejects_by_transform(table)])


class Refused(unittest.TestCase):
    def test_n_out_of_its_range_and_bytes_that_are_not_0_or_1(self):
        check_table_refusals(self, bl_rejects)


class HandedIn(unittest.TestCase):
    def test_unchanged_and_the_same_again(self):
        check_call(self, bl_rejects, (2, [1, 0, 0, 0]), [10])
        check_call(self, bl_rejects, (2, [0, 1, 1, 0]), [0])
        check_call(self, bl_rejects, (2, [0, 1, 2, 0]), [-3])
        check_call(self, bl_rejects, (11, []), [-2])
        check_call(self, bl_rejects, (2, [1, 0, 0, 0]), [10])


if __name__ == "__main__":
    unittest.main()
