"""weigh: how many bits each kind takes, 0 where it can't be, and its refusals."""

import random
import unittest

from helper import by_itself, fixed, linear, plain, row, ways_of_part
from soundkeeping.keeping import frame, weigh


def slowly(w, numbers):
    ways = ways_of_part(w, numbers)
    return [len(ways[kind] or "") for kind in range(1, 11)]


class ByHand(unittest.TestCase):
    def test_one_number(self):
        # 5 of 4 bits: 1 + 4 + 4; 1 + 4 + 3 + 5 + a run of 2, a 1 and 2 bits; 1 + 4 + 4 + 3 + 5.
        self.assertEqual(weigh(4, [5]), [9, 18, 17, 0, 0, 0, 0, 0, 0, 0])

    def test_all_the_same(self):
        # Plain: 5 + 24. Order 0: e' is 2, g 0 takes 3 and g 1 too. Order 1: two rests of 0. Order 2: one of 0,
        # which 2 * 1 - 1 guesses. Order 3: none. Linear: a1 is 1; of order 2 there are many answers.
        self.assertEqual(weigh(8, [1, 1, 1]), [29, 22, 23, 30, 37, 0, 39, 0, 0, 0])

    def test_all_0(self):
        # z is 0, and no least squares have an only answer.
        self.assertEqual(weigh(8, [0, 0, 0]), [29, 16, 23, 30, 37, 0, 0, 0, 0, 0])
        self.assertEqual(weigh(25, [0] * 256), [5 + 25 * 256] + [5 + 25 * p + 3 + 11 for p in range(5)] + [0] * 4)

    def test_zeros_at_the_ends(self):
        # -128 of 8 bits is -1 of one: 1 + 7 + 4 + 1.
        self.assertEqual(weigh(8, [-128])[:3], [13, 12 + 3 + 5 + 2, 12 + 1 + 3 + 5])
        self.assertEqual(weigh(8, [64, 0])[0], 1 + 6 + 4 + 2 * 2)

    def test_least_width(self):
        self.assertEqual(weigh(1, [0, -1]), [7, 16, 16, 15, 0, 0, 0, 0, 0, 0])
        self.assertEqual(weigh(1, [-1, 0])[0], 7)

    def test_orders_want_numbers(self):
        # Fixed up to n, linear below it.
        for n in range(1, 6):
            weights = weigh(25, [7, -20, 900, 12345, -77][:n])
            self.assertEqual([bits > 0 for bits in weights[1:6]], [p <= n for p in range(5)])
            # With fewer than p equations there's no only answer: of order 2 it takes 4 numbers.
            self.assertEqual([bits > 0 for bits in weights[6:]], [2 * p <= n for p in range(1, 5)])

    def test_order_of_all_numbers(self):
        self.assertEqual(weigh(25, [1, 2, 4, 9])[5], 5 + 4 * 25 + 3 + 5)

    def test_fixed_kinds(self):
        numbers = [t * t * t for t in range(16)]
        weights = weigh(16, numbers)
        self.assertEqual(weights[5], len(fixed(16, 4, numbers, 0, ((31, 0),))))
        self.assertEqual(weights[5], 5 + 64 + 3 + 11)

    def test_linear_kinds(self):
        numbers = [3 ** t for t in range(12)]
        self.assertEqual(weigh(25, numbers)[6], 5 + 25 + 4 + 12 + 3 + 11)
        # All orders above have many answers, as each number follows from the one before.
        self.assertEqual(weigh(25, numbers)[7:], [0, 0, 0])


class Factors(unittest.TestCase):
    def linear_bits(self, h, factors, numbers, ways=((0, 0),)):
        return len(linear(25, h, factors, numbers, 0, ways))

    def test_none_that_twelve_bits_hold(self):
        for numbers in ([1, 2048], [1, -2049], [1, 2 ** 24 - 1], [2, 4095], [2, -4097]):
            self.assertEqual(weigh(25, numbers)[6], 0, numbers)

    def test_the_edges_of_twelve_bits(self):
        for numbers, a in (([1, 2047], 2047), ([1, -2048], -2048), ([4, 8189], 2047), ([4, -8193], -2048)):
            self.assertEqual(weigh(25, numbers)[6], self.linear_bits(0, [a], numbers), numbers)

    def test_halves_away_from_0(self):
        # 1 / 65536 by 2^15 is a half: the factor 1 guesses 2, not 0, and -1 guesses -2.
        self.assertEqual(weigh(25, [65536, 1])[6], self.linear_bits(15, [1], [65536, 1]))
        self.assertEqual(weigh(25, [65536, 1])[6], 5 + 25 + 16 + 8 + 2)
        self.assertEqual(weigh(25, [65536, -1])[6], self.linear_bits(15, [-1], [65536, -1]))
        self.assertEqual(weigh(25, [65536, -1])[6], 5 + 25 + 16 + 8 + 3)

    def test_just_off_a_half(self):
        # 1 / 65537 by 2^15 is a bit less than a half, 1 / 65535 a bit more.
        less, more = [65537, 1], [65535, 1]
        self.assertEqual(weigh(25, less)[6], self.linear_bits(15, [0], less))
        self.assertEqual(weigh(25, more)[6], self.linear_bits(15, [1], more))

    def test_one_shift_for_all(self):
        # a1 is 4 and a2 1: the shift is the one that 4 lets be, 8.
        numbers = [1, 1]
        while len(numbers) < 11:
            numbers.append(4 * numbers[-1] + numbers[-2])
        self.assertEqual(weigh(25, numbers)[7], self.linear_bits(8, [1024, 256], numbers, ((31, 0),)))

    def test_negative_factor_of_the_least_shift(self):
        # Each is 2000 times the one before less the one before that.
        numbers = [1, 0, -1, -2000]
        self.assertEqual(weigh(25, numbers)[7], self.linear_bits(0, [2000, -1], numbers))

    def test_exactly(self):
        # Sums that no float holds: the last bit decides whether there's an only answer.
        big = 2 ** 24 - 1
        self.assertEqual(weigh(25, [big, big, big, big])[7], 0)
        self.assertGreater(weigh(25, [big, big, big - 1, big])[7], 0)
        self.assertEqual(weigh(25, [big, big, big - 1, big]), slowly(25, [big, big, big - 1, big]))

    def test_more_equations_than_factors(self):
        rnd = random.Random(41)
        for trial in range(200):
            n = rnd.randint(2, 12)
            a = 2 ** rnd.randrange(25)
            numbers = [rnd.randint(-a, a - 1) for t in range(n)]
            self.assertEqual(weigh(25, numbers), slowly(25, numbers), numbers)


class Many(unittest.TestCase):
    def test_small_ones(self):
        rnd = random.Random(42)
        for trial in range(400):
            w = rnd.randint(1, 25)
            numbers = row(rnd, w, rnd.choice([1, 2, 3, 4, 5, 6, 8, 16, rnd.randint(1, 40)]))
            self.assertEqual(weigh(w, numbers), slowly(w, numbers), (w, numbers))

    def test_large_ones(self):
        rnd = random.Random(43)
        for trial in range(16):
            w = rnd.randint(4, 25)
            numbers = row(rnd, w, rnd.choice([64, 128, 192, 255, 256]))
            self.assertEqual(weigh(w, numbers), slowly(w, numbers), (w, numbers))

    def test_every_width_at_its_ends(self):
        for w in range(1, 26):
            half = 2 ** (w - 1)
            for numbers in ([-half], [half - 1], [-half, half - 1], [half - 1, -half] * 8, [-half] * 5):
                self.assertEqual(weigh(w, numbers), slowly(w, numbers), (w, numbers))

    def test_plain_is_what_it_is(self):
        for n in (1, 2, 255, 256):
            numbers = [1] + [0] * (n - 1)
            self.assertEqual(weigh(25, numbers)[0], len(plain(25, numbers)))

    def test_frame_takes_the_least(self):
        rnd = random.Random(44)
        for trial in range(80):
            depth, order, n = rnd.randint(4, 24), rnd.randint(0, 4), rnd.randint(2, 48)
            numbers = row(rnd, depth, n)
            if len(set(numbers)) > 1:
                least = min(bits for bits in weigh(depth, numbers)[:6 + order] if bits > 0)
                self.assertEqual(frame(0, [1, depth, 48, order, 1, 0], numbers)[0], (44 + least + 7) // 8 + 2)


class Refusals(unittest.TestCase):
    def test_width(self):
        for w in (0, 26, 27, 64, 4294967295):
            self.assertEqual(weigh(w, [0]), [-1])
        for w in (1, 25):
            self.assertEqual(len(weigh(w, [0])), 10)

    def test_how_many_numbers(self):
        self.assertEqual(weigh(8, []), [-1])
        for n in (257, 258, 512):
            self.assertEqual(weigh(8, [0] * n), [-1])
        for n in (1, 256):
            self.assertEqual(len(weigh(8, [0] * n)), 10)

    def test_does_not_fit(self):
        for w in range(1, 26):
            half = 2 ** (w - 1)
            for number in (-half - 1, half, -2147483648, 2147483647):
                for place in range(3):
                    numbers = [0, 0, 0]
                    numbers[place] = number
                    self.assertEqual(weigh(w, numbers), [-2])

    def test_the_first_told(self):
        self.assertEqual(weigh(0, [2147483647]), [-1])
        self.assertEqual(weigh(26, [2147483647]), [-1])
        self.assertEqual(weigh(8, [2147483647] * 257), [-1])
        self.assertEqual(weigh(8, [2147483647] * 256), [-2])


class ByItself(unittest.TestCase):
    def test_unchanged_and_the_same_again(self):
        rnd = random.Random(45)
        for trial in range(40):
            numbers = row(rnd, 12, 24)
            by_itself(self, weigh, [4, [1, 2, 3]], [12, numbers])
            self.assertEqual(len(weigh(12, numbers)), 10)


if __name__ == "__main__":
    unittest.main()
