import unittest

from bychance.claims import bl_far
from helper import Made, agreeing_less_differing, check_call, check_table_refusals, sum_of_bits


def far_by_transform(table):
    return (len(table) - max(agreeing_less_differing(table))) // 2


class Ordinary(unittest.TestCase):
    def test_one_bit_by_hand(self):
        # The sums of bits are 0 0 and 0 1.
        self.assertEqual(bl_far(1, [0, 0]), [0])
        self.assertEqual(bl_far(1, [0, 1]), [0])
        self.assertEqual(bl_far(1, [1, 0]), [1])
        self.assertEqual(bl_far(1, [1, 1]), [1])

    def test_two_bits_by_hand(self):
        # The sums of bits are 0000, 0101, 0011 and 0110.
        expected = {
            (0, 0, 0, 0): 0, (0, 1, 0, 1): 0, (0, 0, 1, 1): 0, (0, 1, 1, 0): 0,
            (0, 0, 0, 1): 1, (0, 0, 1, 0): 1, (0, 1, 0, 0): 1, (1, 0, 0, 0): 1,
            (0, 1, 1, 1): 1, (1, 0, 1, 1): 1, (1, 1, 0, 1): 1, (1, 1, 1, 0): 1,
            (1, 0, 0, 1): 2, (1, 1, 0, 0): 2, (1, 0, 1, 0): 2, (1, 1, 1, 1): 2,
        }
        self.assertEqual(len(expected), 16)
        for table, answer in expected.items():
            self.assertEqual(bl_far(2, list(table)), [answer])

    def test_a_sum_of_bits_written_out(self):
        # Of 3 bits, with the number 5: bit 0 and bit 2 count.
        self.assertEqual(bl_far(3, [0, 1, 0, 1, 1, 0, 1, 0]), [0])
        self.assertEqual(bl_far(3, [0, 1, 1, 1, 1, 0, 1, 0]), [1])
        self.assertEqual(bl_far(3, [1, 1, 0, 1, 1, 0, 1, 1]), [2])

    def test_every_sum_of_bits_is_at_0(self):
        for n in range(1, 7):
            for chosen in range(2 ** n):
                self.assertEqual(bl_far(n, sum_of_bits(n, chosen)), [0])

    def test_a_sum_of_bits_with_a_1_added_is_at_half(self):
        # It differs from itself everywhere, from any other sum of bits in half of the places.
        for n in range(1, 7):
            for chosen in range(2 ** n):
                self.assertEqual(bl_far(n, [1 - bit for bit in sum_of_bits(n, chosen)]), [2 ** (n - 1)])

    def test_some_places_changed(self):
        # Two sums of bits differ in half of the places: up to a quarter of them, no other is nearer.
        made = Made(43)
        for n in range(2, 9):
            for count in range(2 ** (n - 2) + 1):
                chosen = made.below(2 ** n)
                table = sum_of_bits(n, chosen)
                left = list(range(2 ** n))
                for _ in range(count):
                    place = left.pop(made.below(len(left)))
                    table[place] = 1 - table[place]
                self.assertEqual(bl_far(n, table), [count])

    def test_three_bits_all_tables(self):
        for mask in range(256):
            table = [mask >> place & 1 for place in range(8)]
            nearest = 8
            for chosen in range(8):
                other = sum_of_bits(3, chosen)
                nearest = min(nearest, sum(1 for a, b in zip(table, other) if a != b))
            self.assertEqual(bl_far(3, table), [nearest])

    def test_against_the_transform(self):
        made = Made(47)
        for n in range(1, 9):
            for _ in range(12):
                table = made.numbers(2 ** n, 2)
                self.assertEqual(bl_far(n, table), [far_by_transform(table)])


class Edges(unittest.TestCase):
    def test_ten_bits(self):
        for chosen in (0, 1, 2, 512, 513, 682, 1022, 1023):
            table = sum_of_bits(10, chosen)
            self.assertEqual(bl_far(10, table), [0])
            for place in (0, 1, 511, 512, 1023):
                changed = list(table)
                changed[place] = 1 - changed[place]
                self.assertEqual(bl_far(10, changed), [1])

    def test_ten_bits_as_far_as_can_be(self):
        self.assertEqual(bl_far(10, [1] * 1024), [512])
        # Five products of two bits each, added up: from every sum of bits 496 or 528 places.
        table = []
        for place in range(1024):
            bits = [place >> bit & 1 for bit in range(10)]
            table.append(sum(bits[at] * bits[at + 1] for at in range(0, 10, 2)) % 2)
        self.assertEqual(bl_far(10, table), [496])
        self.assertEqual(bl_far(10, [1 - bit for bit in table]), [496])

    def test_ten_bits_against_the_transform(self):
        made = Made(53)
        for _ in range(3):
            table = made.numbers(1024, 2)
            self.assertEqual(bl_far(10, table), [far_by_transform(table)])


class Refused(unittest.TestCase):
    def test_n_out_of_its_range_and_bytes_that_are_not_0_or_1(self):
        check_table_refusals(self, bl_far)


class HandedIn(unittest.TestCase):
    def test_unchanged_and_the_same_again(self):
        check_call(self, bl_far, (2, [1, 0, 0, 1]), [2])
        check_call(self, bl_far, (2, [0, 1, 1, 0]), [0])
        check_call(self, bl_far, (2, [0, 1, 2, 0]), [-3])
        check_call(self, bl_far, (11, []), [-2])
        check_call(self, bl_far, (2, [1, 0, 0, 1]), [2])


if __name__ == "__main__":
    unittest.main()
