"""unframe: every way that a frame may be written, and where bytes are wrong or short."""

import random
import unittest

from helper import (EDGE_FORMS, FORM, NO_FORMS, by_itself, closed, first_bits, fixed, group_bits, head, linear,
                    long_frame, mono, plain, run, s, same, some_form, sound, stereo, to_bytes, u, woven, zeros_bits)
from soundkeeping.keeping import frame, unframe

# Behind what's told to be wrong, or a frame's end, anything may stand.
TAILS = ("", "0" * 64, "1" * 64, "01101001" * 8, "10" * 32)


class Unframed(unittest.TestCase):
    def taken(self, form, bits, numbers, k=0):
        """A frame of these bits is taken, whatever is behind, and each beginning of it is short."""
        data = closed(bits)
        answer = [len(data), k, len(numbers) // form[0]] + numbers
        for tail in TAILS:
            self.assertEqual(unframe(form, data + to_bytes(tail)), answer)
        for size in range(len(data)):
            self.assertEqual(unframe(form, data[:size]), [-2], size)

    def wrong(self, form, bits):
        """The last of these bits makes it wrong: no beginning with fewer bits does."""
        for tail in TAILS:
            data = to_bytes(bits + tail)
            for size in range(max(0, len(bits) // 8 - 12), len(data) + 1):
                self.assertEqual(unframe(form, data[:size]), [-2 if 8 * size < len(bits) else -3], (tail, size))

    def not_yet(self, form, bits):
        """Bits of which nothing is wrong so far, and that aren't all."""
        data = to_bytes(bits)
        if len(bits) % 8 == 0:
            self.assertEqual(unframe(form, data), [-2])
        else:
            self.assertEqual(unframe(form, data[:-1]), [-2])


class GivesBack(Unframed):
    def test_what_frame_wrote(self):
        rnd = random.Random(21)
        for trial in range(500):
            n = rnd.choice([1, 2, 3, 4, 7, 16, 32, 64, rnd.randint(1, 256)])
            form = some_form(rnd, n)
            numbers = sound(rnd, form, n)
            k = rnd.randrange(2 ** 20)
            answer = frame(k, form, numbers)
            self.assertEqual(unframe(form, answer[1:]), [answer[0], k, n] + numbers, (k, form, numbers))

    def test_at_the_edges_of_forms(self):
        rnd = random.Random(22)
        for form in EDGE_FORMS:
            half = 2 ** (form[1] - 1)
            for n in (1, form[2]):
                numbers = [rnd.choice([-half, half - 1, 0]) for t in range(n * form[0])]
                answer = frame(2 ** 20 - 1, form, numbers)
                self.assertEqual(unframe(form, answer[1:]), [answer[0], 2 ** 20 - 1, n] + numbers)

    def test_beginnings_are_short_and_what_is_behind_has_no_bearing(self):
        rnd = random.Random(23)
        for trial in range(60):
            form = some_form(rnd, 24)
            numbers = sound(rnd, form, rnd.randint(1, 24))
            answer = frame(trial, form, numbers)
            for size in range(answer[0]):
                self.assertEqual(unframe(form, answer[1:1 + size]), [-2])
            behind = [rnd.randrange(256) for byte in range(rnd.choice([1, 2, 50, 5000]))]
            again = unframe(form, answer[1:] + behind)
            self.assertEqual(again, [answer[0], trial, len(numbers) // form[0]] + numbers)

    def test_each_bit_turned_over_is_not_taken(self):
        rnd = random.Random(24)
        for trial in range(12):
            form = some_form(rnd, 16)
            data = frame(trial, form, sound(rnd, form, rnd.randint(1, 8)))[1:]
            for bit in range(8 * len(data)):
                hurt = list(data)
                hurt[bit // 8] ^= 128 >> bit % 8
                self.assertIn(unframe(form, hurt), ([-2], [-3]))

    def test_answers_stay_when_more_bytes_come(self):
        rnd = random.Random(25)
        for trial in range(300):
            form = some_form(rnd, 16)
            data = frame(trial, form, sound(rnd, form, rnd.randint(1, 16)))[1:]
            for hurt in range(rnd.randint(1, 3)):
                data[rnd.randrange(5, len(data))] = rnd.randrange(256)
            data = data + [rnd.randrange(256) for byte in range(40)]
            answers = [unframe(form, data[:size]) for size in range(len(data) + 1)]
            known = [answer for answer in answers if answer != [-2]]
            self.assertEqual(answers, [[-2]] * (len(answers) - len(known)) + known)
            self.assertLessEqual(len({tuple(answer) for answer in known}), 1)


class OtherWays(Unframed):
    """Ways that a frame may be written but that frame doesn't choose."""

    def test_numbers_that_are_the_same_in_every_kind(self):
        numbers = [5] * 4
        texts = [same(8, 5), plain(8, numbers)] + [fixed(8, p, numbers) for p in range(5)]
        texts += [linear(8, 0, [1] + [0] * (p - 1), numbers) for p in range(1, 5)]
        for text in texts:
            self.taken(mono(8), head(7, 4) + text, numbers, 7)

    def test_fewer_zeros_than_there_are(self):
        numbers = [-128, 64, 0, 64]
        for z in range(7):
            self.taken(mono(8), head(0, 4) + plain(8, numbers, z), numbers)
            self.taken(mono(8), head(0, 4) + fixed(8, 1, numbers, 0, ((5, 0),), z), numbers)

    def test_zeros_of_all_0(self):
        for z in range(1, 24):
            self.taken(mono(24), head(0, 3) + same(24, 0, z), [0] * 3)

    def test_linear_above_the_order_of_the_form(self):
        numbers = [3, -4, 5, 6, 7, -8, 9, 11]
        for order in range(5):
            for factors in ([1], [5, -7], [2047, -2048, 3], [1, 2, 3, 4]):
                text = linear(8, 3, factors, numbers, 0, ((9, 0),))
                self.taken(mono(8, order), head(0, 8) + text, numbers)

    def test_order_as_great_as_n(self):
        for p in range(1, 5):
            numbers = [9, -3, 4, 7][:p]
            self.taken(mono(8), head(0, p) + fixed(8, p, numbers), numbers)
            self.taken(mono(8), head(0, p) + linear(8, 15, [-2048] * p, numbers), numbers)
            # A group of no rests has its g all the same, and its v.
            self.taken(mono(8), head(0, p) + fixed(8, p, numbers, 0, ((31, 40),)), numbers)

    def test_every_shift(self):
        numbers = [100, -101, 77, -3, 0, 55]
        for h in range(16):
            for factors in ([2047], [-2048], [-1, 1], [7, 7, -7, -7]):
                self.taken(mono(8), head(0, 6) + linear(8, h, factors, numbers, 0, ((20, 0),)), numbers)

    def test_guesses_are_rounded_down(self):
        # (-1 * 1) / 2 is -1, not 0: the rest of 0 makes -1 of 1.
        text = head(0, 2) + zeros_bits(0) + u(4, 7) + s(8, 1) + u(4, 1) + s(12, -1) + u(3, 0) + group_bits(31, 0, [0])
        self.taken(mono(8), text, [1, -1])

    def test_the_first_factor_is_for_the_number_just_before(self):
        text = zeros_bits(0) + u(4, 8) + s(8, 3) + s(8, 10) + u(4, 0) + s(12, 2) + s(12, -1)
        self.taken(mono(8), head(0, 4) + text + u(3, 0) + group_bits(31, 0, [0, 0]), [3, 10, 17, 24])

    def test_fixed_guesses(self):
        # Rests of 0 carry on the numbers' own law.
        for p, numbers in enumerate(([0] * 6, [4] * 6, [1, 3, 5, 7, 9, 11], [0, 1, 4, 9, 16, 25], [0, 1, 8, 27, 64, 125])):
            text = zeros_bits(0) + u(4, 2 + p) + first_bits(8, numbers, p) + u(3, 0) + group_bits(31, 0, [0] * (6 - p))
            self.taken(mono(8), head(0, 6) + text, numbers)

    def test_every_g(self):
        numbers = [-8, 7, 0, -1, 1, 3]
        for g in range(31):
            self.taken(mono(4), head(0, 6) + fixed(4, 0, numbers, 0, ((g, 0),)), numbers)

    def test_every_v(self):
        numbers = [-8, 7, 0, -1, 1, 3]
        for v in range(4, 41):
            self.taken(mono(4), head(0, 6) + fixed(4, 0, numbers, 0, ((31, v),)), numbers)
        for v in range(2, 41):
            self.taken(mono(4), head(0, 3) + fixed(4, 0, [1, -2, 0], 0, ((31, v),)), [1, -2, 0])
        self.taken(mono(4), head(0, 3) + fixed(4, 0, [0, -1, 0], 0, ((31, 1),)), [0, -1, 0])
        self.taken(mono(4), head(0, 3) + fixed(4, 0, [0, 0, 0], 0, ((31, 0),)), [0, 0, 0])

    def test_every_r(self):
        rnd = random.Random(26)
        numbers = [rnd.randint(-8, 7) for t in range(64)]
        for r in range(7):
            for p in range(5):
                if 64 // 2 ** r >= p:
                    ways = [rnd.choice([(0, 0), (1, 0), (3, 0), (31, 8), (31, 40)]) for group in range(2 ** r)]
                    self.taken(mono(4), head(0, 64) + fixed(4, p, numbers, r, ways), numbers)
                    if p > 0:
                        self.taken(mono(4), head(0, 64) + linear(4, 2, [3] * p, numbers, r, ways), numbers)

    def test_first_group_of_none(self):
        numbers = [1, -2, 3, 4, -5, 6, 7, -8, 1, 1, 1, 1, 0, 0, 0, 0]
        self.taken(mono(4), head(0, 16) + fixed(4, 4, numbers, 2, ((31, 40), (5, 0), (2, 0), (31, 6))), numbers)

    def test_every_mode(self):
        a, b = [-8, 7, 0, 3, -1], [7, -8, 0, -4, 2]
        side = [x - y for x, y in zip(a, b)]
        middle = [(x + y) // 2 for x, y in zip(a, b)]
        rows = ((0, (4, a), (4, b)), (1, (4, a), (5, side)), (2, (5, side), (4, b)), (3, (4, middle), (5, side)))
        for mode, first, second in rows:
            text = head(0, 5) + u(2, mode) + plain(first[0], first[1]) + plain(second[0], second[1])
            self.taken(stereo(4), text, woven(a, b))
            text = head(0, 5) + u(2, mode) + fixed(first[0], 0, first[1], 0, ((31, 9),)) + fixed(second[0], 1, second[1])
            self.taken(stereo(4), text, woven(a, b))

    def test_every_pair_in_every_mode(self):
        a = [x for x in range(-8, 8) for y in range(-8, 8)]
        b = [y for x in range(-8, 8) for y in range(-8, 8)]
        side = [x - y for x, y in zip(a, b)]
        rows = ((4, a, 5, side), (5, side, 4, b), (4, [(x + y) // 2 for x, y in zip(a, b)], 5, side))
        for mode, (w, first, width, second) in enumerate(rows, 1):
            data = closed(head(0, 256) + u(2, mode) + plain(w, first) + plain(width, second))
            self.assertEqual(unframe(stereo(4), data), [len(data), 0, 256] + woven(a, b))

    def test_modes_of_three_and_four_channels(self):
        a, b, c, d = [1, 2], [3, -4], [-5, 6], [7, 7]
        text = head(0, 2) + u(2, 2) + plain(9, [x - y for x, y in zip(a, b)]) + plain(8, b) + plain(8, c)
        self.taken([3, 8, 16, 0, 1, 0], text, woven(a, b, c))
        text = head(0, 2) + u(2, 0) + u(2, 1) + plain(8, a) + plain(8, b) + plain(8, c)
        text += plain(9, [x - y for x, y in zip(c, d)])
        self.taken([4, 8, 16, 0, 1, 0], text, woven(a, b, c, d))

    def test_no_bits_0_are_needed(self):
        # 44 bits and 1 + 4 + 7: the check follows at once.
        self.taken(mono(7), head(0, 1) + same(7, 9), [9])
        self.taken(mono(8), head(0, 1) + same(8, 9), [9])

    def test_every_number_of_samples(self):
        for n in range(1, 257):
            data = closed(head(n, n) + same(4, 3))
            for block in (16, 100, 256):
                answer = [len(data), n, n] + [3] * n if n <= block else [-3]
                self.assertEqual(unframe(mono(4, 0, block), data), answer)


class WrongItems(Unframed):
    def test_mark(self):
        for mark in (0, 0x4B56, 0x5B57, 0x574B, 0xFFFF):
            self.wrong(FORM, u(16, mark))
        self.assertEqual(unframe(FORM, []), [-2])
        self.assertEqual(unframe(FORM, [0]), [-2])
        self.assertEqual(unframe(FORM, [0x4B]), [-2])
        self.assertEqual(unframe(FORM, [0, 0]), [-3])

    def test_any_number_of_the_frame(self):
        for k in (0, 1, 2 ** 19, 2 ** 20 - 1):
            self.taken(mono(8), head(k, 1) + same(8, 0), [0], k)

    def test_more_samples_than_a_block(self):
        for block in (16, 17, 255):
            self.taken(mono(8, 4, block), head(0, block) + same(8, 0), [0] * block)
            self.wrong(mono(8, 4, block), head(0, block + 1))
            self.wrong(mono(8, 4, block), head(0, 256))

    def test_zeros_not_below_the_width(self):
        for depth in range(4, 25):
            self.taken(mono(depth), head(0, 1) + zeros_bits(depth - 1) + u(4, 0) + "1", [-(2 ** (depth - 1))])
            # As soon as depth - 1 bits 0 stand there z is depth at least.
            self.wrong(mono(depth), head(0, 1) + "1" + "0" * (depth - 1))
            self.not_yet(mono(depth), head(0, 1) + "1" + "0" * (depth - 2))

    def test_zeros_of_a_side(self):
        for depth in range(4, 12):
            begin = head(0, 1) + u(2, 2)
            self.taken(stereo(depth), begin + zeros_bits(depth) + u(4, 0) + "0" + same(depth, 1), [1, 1])
            self.wrong(stereo(depth), begin + "1" + "0" * depth)
            begin = head(0, 1) + u(2, 1) + same(depth, 1)
            self.taken(stereo(depth), begin + zeros_bits(depth) + u(4, 0) + "0", [1, 1])
            self.wrong(stereo(depth), begin + "1" + "0" * depth)
            begin = head(0, 1) + u(2, 0)
            self.wrong(stereo(depth), begin + "1" + "0" * (depth - 1))
            self.wrong(stereo(depth), begin + same(depth, 1) + "1" + "0" * (depth - 1))

    def test_no_such_kind(self):
        for z in range(8):
            for kind in range(11, 16):
                self.wrong(mono(9), head(0, 16) + zeros_bits(z) + u(4, kind))
            for kind in range(2, 11):
                self.not_yet(mono(9), head(0, 16) + zeros_bits(z) + u(4, kind))

    def test_order_above_n(self):
        for n in range(1, 5):
            for p in range(5):
                for kind in [2 + p] + ([6 + p] if p > 0 else []):
                    for z in range(8):
                        text = head(0, n) + zeros_bits(z) + u(4, kind)
                        if p > n:
                            self.wrong(mono(9), text)
                        else:
                            self.not_yet(mono(9), text)

    def test_r(self):
        for n in (1, 2, 3, 4, 6, 16, 20, 48, 64, 128, 192, 256):
            for p in range(min(n, 4) + 1):
                for z in (0, 1, 4):
                    text = head(0, n) + zeros_bits(z) + u(4, 2 + p) + s(16 - z, 0) * p
                    self.r_is_judged(n, p, text)
                    if p > 0:
                        text = head(0, n) + zeros_bits(z) + u(4, 6 + p) + s(16 - z, 0) * p + u(4, 0) + s(12, 0) * p
                        self.r_is_judged(n, p, text)

    def r_is_judged(self, n, p, text):
        for r in range(8):
            if r < 7 and n % 2 ** r == 0 and n // 2 ** r >= p:
                self.not_yet(FORM, text + u(3, r))
            else:
                self.wrong(FORM, text + u(3, r))

    def test_v(self):
        for z in range(8):
            text = head(0, 16) + zeros_bits(z) + u(4, 2) + u(3, 0) + u(5, 31)
            for v in range(41, 64):
                self.wrong(mono(9), text + u(6, v))
            self.not_yet(mono(9), text + u(6, 40))

    def test_v_of_a_group_with_no_rests(self):
        self.wrong(mono(8), head(0, 1) + zeros_bits(0) + u(4, 3) + s(8, 1) + u(3, 0) + u(5, 31) + u(6, 41))

    def test_v_of_a_later_group(self):
        text = head(0, 4) + zeros_bits(0) + u(4, 2) + u(3, 1) + group_bits(0, 0, [1, -1]) + u(5, 31)
        self.wrong(mono(8), text + u(6, 41))

    def test_runs_of_2_to_the_40(self):
        for g in range(27, 31):
            text = head(0, 16) + zeros_bits(0) + u(4, 2) + u(3, 0) + u(5, g)
            most = 2 ** (40 - g)
            self.wrong(FORM, text + "0" * most)
            self.not_yet(FORM, text + "0" * (most - 1))
            # One less isn't too long: only what it makes is wrong, once its lowest bits are there.
            self.wrong(FORM, text + run(most - 1) + u(g, 0))
            self.wrong(FORM, text + run(most - 1) + u(g, 2 ** g - 1))

    def test_runs_of_2_to_the_40_by_a_later_rest(self):
        for shorter in range(8):
            text = head(0, 16) + zeros_bits(0) + u(4, 2) + u(3, 0) + u(5, 30) + (run(0) + u(30, 5)) * shorter
            self.wrong(FORM, text + "0" * 1024)


class WrongNumbers(Unframed):
    def test_rest_makes_a_number_that_does_not_fit(self):
        for depth in range(4, 12):
            half = 2 ** (depth - 1)
            text = head(0, 4) + zeros_bits(0) + u(4, 3) + s(depth, half - 1) + u(3, 0)
            self.taken(mono(depth), text + group_bits(0, 0, [0, -1, 1]), [half - 1, half - 1, half - 2, half - 1])
            self.wrong(mono(depth), text + u(5, 0) + run(2))
            self.wrong(mono(depth), text + u(5, 1) + run(1) + "0")
            self.not_yet(mono(depth), text + u(5, 1) + run(1))
            self.wrong(mono(depth), text + u(5, 31) + u(6, 2) + s(2, 1))
            self.wrong(mono(depth), text + u(5, 31) + u(6, 40) + s(40, 0) + s(40, 1))
            self.wrong(mono(depth), text + u(5, 31) + u(6, 40) + s(40, 2 ** 39 - 1))
            text = head(0, 4) + zeros_bits(0) + u(4, 3) + s(depth, -half) + u(3, 0)
            self.taken(mono(depth), text + group_bits(0, 0, [0, 1, -1]), [-half, -half, 1 - half, -half])
            self.wrong(mono(depth), text + u(5, 0) + run(1))
            self.wrong(mono(depth), text + u(5, 31) + u(6, 40) + s(40, -(2 ** 39)))

    def test_width_is_less_by_the_zeros(self):
        for z in range(1, 8):
            half = 2 ** (9 - z - 1)
            text = head(0, 3) + zeros_bits(z) + u(4, 2) + u(3, 0) + u(5, 31) + u(6, 12)
            numbers = [(half - 1) << z, -half << z, 0]
            self.taken(mono(9), text + s(12, half - 1) + s(12, -half) + s(12, 0), numbers)
            self.wrong(mono(9), text + s(12, half))
            self.wrong(mono(9), text + s(12, half - 1) + s(12, -half - 1))

    def test_guess_alone_does_not_fit(self):
        # Rests without bits: the number is there, and wrong, with its v.
        for depth in range(4, 12):
            half = 2 ** (depth - 1)
            text = head(0, 3) + zeros_bits(0) + u(4, 4) + s(depth, 0) + s(depth, half // 2) + u(3, 0) + u(5, 31)
            self.wrong(mono(depth), text + u(6, 0))
            self.not_yet(mono(depth), text)
            self.taken(mono(depth), text + u(6, 3) + s(3, -1), [0, half // 2, half - 1])

    def test_guess_of_a_later_rest_without_bits(self):
        text = head(0, 8) + zeros_bits(0) + u(4, 4) + s(8, 0) + s(8, 20) + u(3, 0) + u(5, 31)
        self.wrong(mono(8), text + u(6, 0))
        self.wrong(mono(8), head(0, 4) + zeros_bits(0) + u(4, 4) + s(8, 0) + s(8, 60) + u(3, 1) + u(5, 0) + u(5, 31) + u(6, 0))

    def test_linear_guess_does_not_fit(self):
        for depth in range(4, 12):
            text = head(0, 2) + zeros_bits(0) + u(4, 7) + s(depth, 4) + u(4, 0) + s(12, 2047) + u(3, 0)
            e = 4 - 4 * 2047
            self.taken(mono(depth), text + group_bits(31, 14, [e]), [4, 4])
            self.wrong(mono(depth), text + u(5, 31) + u(6, 0))
            self.wrong(mono(depth), text + u(5, 12) + run(3) + u(12, 0))

    def test_pair_in_mode_1(self):
        # a is 5 under the greatest: s below -5 makes b too great.
        for depth in range(4, 12):
            half = 2 ** (depth - 1)
            text = head(0, 2) + u(2, 1) + same(depth, half - 6)
            w = depth + 1
            self.taken(stereo(depth), text + plain(w, [-5, 5]), [half - 6, half - 1, half - 6, half - 11])
            self.wrong(stereo(depth), text + zeros_bits(0) + u(4, 0) + s(w, -6))
            self.wrong(stereo(depth), text + zeros_bits(0) + u(4, 1) + s(w, -6))
            self.wrong(stereo(depth), text + zeros_bits(0) + u(4, 1) + s(w, -5) + s(w, -6))
            self.wrong(stereo(depth), text + zeros_bits(1) + u(4, 1) + s(w - 1, -3))
            self.wrong(stereo(depth), text + zeros_bits(0) + u(4, 4) + s(w, -6))
            self.wrong(stereo(depth), text + zeros_bits(0) + u(4, 7) + s(w, -6))
            self.wrong(stereo(depth), text + zeros_bits(0) + u(4, 2) + u(3, 0) + u(5, 0) + run(11))
            self.wrong(stereo(depth), text + zeros_bits(0) + u(4, 2) + u(3, 0) + u(5, 31) + u(6, 4) + s(4, -6))

    def test_pair_below_in_mode_1(self):
        for depth in range(4, 12):
            half = 2 ** (depth - 1)
            text = head(0, 1) + u(2, 1) + same(depth, 5 - half)
            self.taken(stereo(depth), text + plain(depth + 1, [5]), [5 - half, -half])
            self.wrong(stereo(depth), text + zeros_bits(0) + u(4, 0) + s(depth + 1, 6))

    def test_pair_in_mode_2(self):
        # s is judged beside b alone, once both are there.
        for depth in range(4, 12):
            half = 2 ** (depth - 1)
            text = head(0, 2) + u(2, 2) + same(depth + 1, half)
            self.taken(stereo(depth), text + plain(depth, [-1, -half]), [half - 1, -1, 0, -half])
            self.wrong(stereo(depth), text + zeros_bits(0) + u(4, 0) + s(depth, 0))
            self.wrong(stereo(depth), text + zeros_bits(0) + u(4, 1) + s(depth, 0))
            self.wrong(stereo(depth), text + zeros_bits(0) + u(4, 1) + s(depth, -1) + s(depth, 0))
            self.wrong(stereo(depth), text + zeros_bits(0) + u(4, 3) + s(depth, 0))
            self.wrong(stereo(depth), text + zeros_bits(0) + u(4, 3) + s(depth, -1) + u(3, 0) + u(5, 0) + run(2))
            text = head(0, 1) + u(2, 2) + same(depth + 1, -half)
            self.taken(stereo(depth), text + same(depth, 0), [-half, 0])
            self.wrong(stereo(depth), text + zeros_bits(0) + u(4, 0) + s(depth, -1))

    def test_pair_in_mode_3(self):
        # m half - 1: with s 0 both are half - 1, any other s takes a or b above.
        for depth in range(4, 12):
            half = 2 ** (depth - 1)
            text = head(0, 2) + u(2, 3) + same(depth, half - 1)
            self.taken(stereo(depth), text + same(depth + 1, 0), [half - 1] * 4)
            for side in (1, -1, 2, -2, 2 * half - 1, -2 * half):
                self.wrong(stereo(depth), text + zeros_bits(0) + u(4, 1) + s(depth + 1, 0) + s(depth + 1, side))
                self.wrong(stereo(depth), text + zeros_bits(0) + u(4, 0) + s(depth + 1, side))
            # m -half: s 1 makes a 1 - half beside b -half, s -1 the other way round.
            text = head(0, 3) + u(2, 3) + same(depth, -half)
            numbers = [-half, -half, 1 - half, -half, -half, 1 - half]
            self.taken(stereo(depth), text + plain(depth + 1, [0, 1, -1]), numbers)
            for side in (2, -2, 3, -3, -2 * half):
                self.wrong(stereo(depth), text + zeros_bits(0) + u(4, 0) + s(depth + 1, side))

    def test_pair_is_judged_before_what_follows(self):
        # The second number of the second part is wrong though its third ends the bytes, and no check is there.
        text = head(0, 3) + u(2, 1) + same(8, 100) + zeros_bits(0) + u(4, 5) + s(9, 0) + s(9, -28)
        self.wrong(stereo(8), text)
        self.not_yet(stereo(8), text[:-9] + s(9, -27))

    def test_first_of_the_pair_waits_for_the_second(self):
        # No b of 8 bits suits an s of -256, yet that's only told once there's a b.
        text = head(0, 1) + u(2, 2) + same(9, -256)
        self.not_yet(stereo(8), text + "0000")
        self.wrong(stereo(8), text + zeros_bits(0) + u(4, 0) + s(8, 127))

    def test_second_pair_and_lone_last(self):
        form = [4, 8, 16, 4, 1, 0]
        text = head(0, 1) + u(2, 0) + u(2, 1) + same(8, 1) + same(8, 2) + same(8, 100)
        self.taken(form, text + same(9, -27), [1, 2, 100, 127])
        self.wrong(form, text + zeros_bits(0) + u(4, 0) + s(9, -28))
        form = [3, 8, 16, 4, 1, 0]
        text = head(0, 2) + u(2, 0) + same(8, 1) + same(8, 2) + zeros_bits(0) + u(4, 3) + s(8, 127) + u(3, 0) + u(5, 0)
        self.taken(form, text + run(0), [1, 2, 127, 1, 2, 127])
        self.wrong(form, text + run(2))


class WrongEnds(Unframed):
    def test_bits_that_should_be_0(self):
        for depth in list(range(4, 7)) + list(range(8, 15)):
            text = head(0, 1) + same(depth, 1)
            spare = -len(text) % 8
            for turned in range(spare):
                bits = text + "0" * turned + "1" + "0" * (spare - turned - 1)
                self.assertEqual(unframe(mono(depth), to_bytes(bits)), [-3])
                # A right check behind doesn't help.
                self.assertEqual(unframe(mono(depth), closed(bits)), [-3])
            self.assertEqual(unframe(mono(depth), to_bytes(text)), [-2])

    def test_check(self):
        for depth in range(4, 12):
            data = closed(head(3, 1) + same(depth, 1))
            for bit in range(16):
                hurt = data[:-2] + [data[-2] ^ (1 << bit) >> 8, data[-1] ^ (1 << bit) & 255]
                self.assertEqual(unframe(mono(depth), hurt), [-3])
                self.assertEqual(unframe(mono(depth), hurt[:-1]), [-2])
                self.assertEqual(unframe(mono(depth), hurt + data), [-3])

    def test_check_is_of_all_bytes_before(self):
        data = closed(head(3, 1) + same(8, 1))
        for k in (0, 2, 7, 2 ** 19 + 3):
            self.assertEqual(unframe(mono(8), closed(head(k, 1) + same(8, 1))[:-2] + data[-2:]), [-3])


class TheFirst4096(Unframed):
    def test_a_frame_as_long_as_can_be(self):
        for size in (4000, 4095, 4096):
            numbers, data = long_frame(0, size)
            self.assertEqual(len(data), size)
            for behind in ([], [0], [1, 2, 3], [255] * 6000):
                self.assertEqual(unframe(mono(24), data + behind), [size, 0, 16] + numbers)
            for short in (size - 1, size - 2, 2000):
                self.assertEqual(unframe(mono(24), data[:short]), [-2])

    def test_longer_is_wrong(self):
        for size in (4097, 4098, 4099, 6000, 16384):
            data = long_frame(0, size)[1]
            self.assertEqual(len(data), size)
            self.assertEqual(unframe(mono(24), data), [-3])
            self.assertEqual(unframe(mono(24), data[:4096]), [-3])
            self.assertEqual(unframe(mono(24), data[:4095]), [-2])

    def test_a_run_with_no_end(self):
        data = to_bytes(head(0, 16) + zeros_bits(0) + u(4, 2) + u(3, 0) + u(5, 0)) + [0] * 16376
        for size in (8, 100, 4094, 4095):
            self.assertEqual(unframe(mono(24), data[:size]), [-2])
        for size in (4096, 4097, 16384):
            self.assertEqual(unframe(mono(24), data[:size]), [-3])

    def test_what_is_wrong_before_stays_wrong(self):
        self.assertEqual(unframe(FORM, [0] * 4095), [-3])
        self.assertEqual(unframe(FORM, [0] * 16384), [-3])


class Refusals(unittest.TestCase):
    def test_no_form(self):
        right = frame(0, mono(8), [1, 2, 3])[1:]
        for form in NO_FORMS:
            for data in ([], [0], [0, 0], right):
                self.assertEqual(unframe(form, data), [-1], form)

    def test_another_form(self):
        data = frame(0, [1, 8, 32, 0, 1, 0], [1] * 20)[1:]
        self.assertEqual(unframe([1, 8, 20, 4, 8, 4], data)[2:], [20] + [1] * 20)
        self.assertEqual(unframe([1, 8, 19, 4, 8, 4], data), [-3])


class ByItself(unittest.TestCase):
    def test_unchanged_and_the_same_again(self):
        rnd = random.Random(27)
        for trial in range(60):
            form = some_form(rnd, 20)
            data = frame(trial, form, sound(rnd, form, 20))[1:]
            if trial % 3 == 1:
                data = data[:-1]
            if trial % 3 == 2:
                data[7] ^= 5
            by_itself(self, unframe, [FORM, [0x4B, 0x57, 1]], [form, data])


if __name__ == "__main__":
    unittest.main()
